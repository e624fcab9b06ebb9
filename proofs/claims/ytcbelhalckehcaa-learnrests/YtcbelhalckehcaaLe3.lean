/- learn: Take. -/
import Derived.Test.YtcbelhalckehcaaLe2
namespace Go.Proofs.Ytcbelhalckehcaa
open Go.RowKit Go.Shelf
/-- what Take tells -/
def takeL (b0 b1 b2 s0 s1 s2 n v0 v1 v2 : Int) : Value :=
  if okLn b0 b1 b2 s0 s1 s2 n && ok3 v0 v1 v2 then
    if ngh v0 v1 v2 b0 b1 b2 then
      if n + 1 < 32 then .tuple #[.agg #[.int .i64 b0, .int .i64 b1, .int .i64 b2, .int .i64 (s0 + v0), .int .i64 (s1 + v1), .int .i64 (s2 + v2), .int .i64 (n + 1)], .bool false, .int .i64 0]
      else if ok3 (nr (s0 + v0)) (nr (s1 + v1)) (nr (s2 + v2)) then .tuple #[.agg #[.int .i64 (nr (s0 + v0)), .int .i64 (nr (s1 + v1)), .int .i64 (nr (s2 + v2)), .int .i64 0, .int .i64 0, .int .i64 0, .int .i64 0], .bool true, .int .i64 0]
      else .tuple #[.agg #[.int .i64 0, .int .i64 0, .int .i64 0, .int .i64 0, .int .i64 0, .int .i64 0, .int .i64 0], .bool false, .int .i64 2]
    else .tuple #[.agg #[.int .i64 b0, .int .i64 b1, .int .i64 b2, .int .i64 0, .int .i64 0, .int .i64 0, .int .i64 0], .bool false, .int .i64 0]
  else .tuple #[.agg #[.int .i64 0, .int .i64 0, .int .i64 0, .int .i64 0, .int .i64 0, .int .i64 0, .int .i64 0], .bool false, .int .i64 1]
set_option maxRecDepth 20000 in
set_option maxHeartbeats 16000000 in
theorem ltake_any (b0 b1 b2 s0 s1 s2 n v0 v1 v2 : Int) (w : World) : Calls Try.prog 9 #[.agg #[.int .i64 b0, .int .i64 b1, .int .i64 b2, .int .i64 s0, .int .i64 s1, .int .i64 s2, .int .i64 n], .agg #[.int .i64 v0, .int .i64 v1, .int .i64 v2]] w fun e w' => e = .returned (takeL b0 b1 b2 s0 s1 s2 n v0 v1 v2) ∧ Ext w w' := by
  have HK : Hid (∀ w, Calls Try.prog 11 #[.agg #[.int .i64 b0, .int .i64 b1, .int .i64 b2, .int .i64 s0, .int .i64 s1, .int .i64 s2, .int .i64 n]] w fun e w' => e = .returned (.int .i64 (chkLn b0 b1 b2 s0 s1 s2 n)) ∧ Ext w w') := lcheck_any b0 b1 b2 s0 s1 s2 n
  have HC : Hid (∀ w, Calls Try.prog 20 #[.agg #[.int .i64 v0, .int .i64 v1, .int .i64 v2]] w fun e w' => e = .returned (.int .i64 (chk3 v0 v1 v2)) ∧ Ext w w') := vCheck_any v0 v1 v2
  have B1 : Hid (HV (((w.alloc (.cells #[.int .i64 b0, .int .i64 b1, .int .i64 b2, .int .i64 s0, .int .i64 s1, .int .i64 s2, .int .i64 n] 26)).alloc (.cells #[.int .i64 v0, .int .i64 v1, .int .i64 v2] 24)).alloc (.cells #[.int .i64 0, .int .i64 0, .int .i64 0, .int .i64 0, .int .i64 0, .int .i64 0, .int .i64 0] 26)) w.heap.size [.int .i64 b0, .int .i64 b1, .int .i64 b2, .int .i64 s0, .int .i64 s1, .int .i64 s2, .int .i64 n]) := ((hv_at rfl).alloc _).alloc _
  have B2 : Hid (HV (((w.alloc (.cells #[.int .i64 b0, .int .i64 b1, .int .i64 b2, .int .i64 s0, .int .i64 s1, .int .i64 s2, .int .i64 n] 26)).alloc (.cells #[.int .i64 v0, .int .i64 v1, .int .i64 v2] 24)).alloc (.cells #[.int .i64 0, .int .i64 0, .int .i64 0, .int .i64 0, .int .i64 0, .int .i64 0, .int .i64 0] 26)) (w.heap.size + 1) [.int .i64 v0, .int .i64 v1, .int .i64 v2]) := (hv_at (by simp)).alloc _
  have B3 : Hid (HV (((w.alloc (.cells #[.int .i64 b0, .int .i64 b1, .int .i64 b2, .int .i64 s0, .int .i64 s1, .int .i64 s2, .int .i64 n] 26)).alloc (.cells #[.int .i64 v0, .int .i64 v1, .int .i64 v2] 24)).alloc (.cells #[.int .i64 0, .int .i64 0, .int .i64 0, .int .i64 0, .int .i64 0, .int .i64 0, .int .i64 0] 26)) (w.heap.size + 2) [.int .i64 0, .int .i64 0, .int .i64 0, .int .i64 0, .int .i64 0, .int .i64 0, .int .i64 0]) := hv_at (by simp)
  have lt2 : Hid (w.heap.size ≤ w.heap.size + 2) := Nat.le_add_right _ _
  have HX : Hid (Ext w (((w.alloc (.cells #[.int .i64 b0, .int .i64 b1, .int .i64 b2, .int .i64 s0, .int .i64 s1, .int .i64 s2, .int .i64 n] 26)).alloc (.cells #[.int .i64 v0, .int .i64 v1, .int .i64 v2] 24)).alloc (.cells #[.int .i64 0, .int .i64 0, .int .i64 0, .int .i64 0, .int .i64 0, .int .i64 0, .int .i64 0] 26))) := (((Ext.refl w).alloc _).alloc _).alloc _
  cases h1 : okLn b0 b1 b2 s0 s1 s2 n
  · have ec : chkLn b0 b1 b2 s0 s1 s2 n = 1 := by unfold chkLn; rw [h1]; rfl
    have er : takeL b0 b1 b2 s0 s1 s2 n v0 v1 v2 = .tuple #[.agg #[.int .i64 0, .int .i64 0, .int .i64 0, .int .i64 0, .int .i64 0, .int .i64 0, .int .i64 0], .bool false, .int .i64 1] := by unfold takeL; rw [h1]; rfl
    rw [ec] at HK
    rw [er]
    clear ec er h1
    go_enter Try.func9, Try.ntmps9
    go_upto_region 1 with fail
    generalize (((w.alloc (.cells #[.int .i64 b0, .int .i64 b1, .int .i64 b2, .int .i64 s0, .int .i64 s1, .int .i64 s2, .int .i64 n] 26)).alloc (.cells #[.int .i64 v0, .int .i64 v1, .int .i64 v2] 24)).alloc (.cells #[.int .i64 0, .int .i64 0, .int .i64 0, .int .i64 0, .int .i64 0, .int .i64 0, .int .i64 0] 26)) = wa at *
    have c0 : wa.cell? ⟨w.heap.size, 0, none⟩ = some (.int .i64 b0) := B1.out.c 0 rfl
    have c1 : wa.cell? ⟨w.heap.size, 1, none⟩ = some (.int .i64 b1) := B1.out.c 1 rfl
    have c2 : wa.cell? ⟨w.heap.size, 2, none⟩ = some (.int .i64 b2) := B1.out.c 2 rfl
    have c3 : wa.cell? ⟨w.heap.size, 3, none⟩ = some (.int .i64 s0) := B1.out.c 3 rfl
    have c4 : wa.cell? ⟨w.heap.size, 4, none⟩ = some (.int .i64 s1) := B1.out.c 4 rfl
    have c5 : wa.cell? ⟨w.heap.size, 5, none⟩ = some (.int .i64 s2) := B1.out.c 5 rfl
    have c6 : wa.cell? ⟨w.heap.size, 6, none⟩ = some (.int .i64 n) := B1.out.c 6 rfl
    go_upto_region 2 with (go_at_call 11; refine (HK.out _).mono ?_; rintro e w1 ⟨rfl, x1⟩)
    clear c0 c1 c2 c3 c4 c5 c6
    have B1 : Hid (HV w1 w.heap.size [.int .i64 b0, .int .i64 b1, .int .i64 b2, .int .i64 s0, .int .i64 s1, .int .i64 s2, .int .i64 n]) := B1.out.ext x1
    have B2 : Hid (HV w1 (w.heap.size + 1) [.int .i64 v0, .int .i64 v1, .int .i64 v2]) := B2.out.ext x1
    have B3 : Hid (HV w1 (w.heap.size + 2) [.int .i64 0, .int .i64 0, .int .i64 0, .int .i64 0, .int .i64 0, .int .i64 0, .int .i64 0]) := B3.out.ext x1
    have HX : Hid (Ext w w1) := HX.out.trans x1
    clear x1
    have o0 : w1.cell? ⟨w.heap.size + 2, 0, none⟩ = some (.int .i64 0) := B3.out.c 0 rfl
    have o1 : w1.cell? ⟨w.heap.size + 2, 1, none⟩ = some (.int .i64 0) := B3.out.c 1 rfl
    have o2 : w1.cell? ⟨w.heap.size + 2, 2, none⟩ = some (.int .i64 0) := B3.out.c 2 rfl
    have o3 : w1.cell? ⟨w.heap.size + 2, 3, none⟩ = some (.int .i64 0) := B3.out.c 3 rfl
    have o4 : w1.cell? ⟨w.heap.size + 2, 4, none⟩ = some (.int .i64 0) := B3.out.c 4 rfl
    have o5 : w1.cell? ⟨w.heap.size + 2, 5, none⟩ = some (.int .i64 0) := B3.out.c 5 rfl
    have o6 : w1.cell? ⟨w.heap.size + 2, 6, none⟩ = some (.int .i64 0) := B3.out.c 6 rfl
    have y0 : w1.frozen? ⟨w.heap.size + 2, 0, none⟩ = false := B3.out.f 0 rfl
    have y1 : w1.frozen? ⟨w.heap.size + 2, 1, none⟩ = false := B3.out.f 1 rfl
    have y2 : w1.frozen? ⟨w.heap.size + 2, 2, none⟩ = false := B3.out.f 2 rfl
    have y3 : w1.frozen? ⟨w.heap.size + 2, 3, none⟩ = false := B3.out.f 3 rfl
    have y4 : w1.frozen? ⟨w.heap.size + 2, 4, none⟩ = false := B3.out.f 4 rfl
    have y5 : w1.frozen? ⟨w.heap.size + 2, 5, none⟩ = false := B3.out.f 5 rfl
    have y6 : w1.frozen? ⟨w.heap.size + 2, 6, none⟩ = false := B3.out.f 6 rfl
    go_wp2_with fail
    refine bodyPost_ret (v := .tuple #[.agg #[.int .i64 0, .int .i64 0, .int .i64 0, .int .i64 0, .int .i64 0, .int .i64 0, .int .i64 0], .bool false, .int .i64 1]) (by simp [results, Try.results9, go_sem, o0, o1, o2, o3, o4, o5, o6]) rfl ⟨rfl, ?_⟩
    exact (Ext.set (Ext.set (Ext.set (Ext.set (Ext.set (Ext.set (Ext.set HX.out lt2.out _) lt2.out _) lt2.out _) lt2.out _) lt2.out _) lt2.out _) lt2.out _)
  · cases h2 : ok3 v0 v1 v2
    · have ec : chkLn b0 b1 b2 s0 s1 s2 n = 0 := by unfold chkLn; rw [h1]; rfl
      have ed : chk3 v0 v1 v2 = 1 := by unfold chk3; rw [h2]; rfl
      have er : takeL b0 b1 b2 s0 s1 s2 n v0 v1 v2 = .tuple #[.agg #[.int .i64 0, .int .i64 0, .int .i64 0, .int .i64 0, .int .i64 0, .int .i64 0, .int .i64 0], .bool false, .int .i64 1] := by unfold takeL; rw [h1, h2]; rfl
      rw [ec] at HK
      rw [ed] at HC
      rw [er]
      clear ec ed er h1 h2
      go_enter Try.func9, Try.ntmps9
      go_upto_region 1 with fail
      generalize (((w.alloc (.cells #[.int .i64 b0, .int .i64 b1, .int .i64 b2, .int .i64 s0, .int .i64 s1, .int .i64 s2, .int .i64 n] 26)).alloc (.cells #[.int .i64 v0, .int .i64 v1, .int .i64 v2] 24)).alloc (.cells #[.int .i64 0, .int .i64 0, .int .i64 0, .int .i64 0, .int .i64 0, .int .i64 0, .int .i64 0] 26)) = wa at *
      have c0 : wa.cell? ⟨w.heap.size, 0, none⟩ = some (.int .i64 b0) := B1.out.c 0 rfl
      have c1 : wa.cell? ⟨w.heap.size, 1, none⟩ = some (.int .i64 b1) := B1.out.c 1 rfl
      have c2 : wa.cell? ⟨w.heap.size, 2, none⟩ = some (.int .i64 b2) := B1.out.c 2 rfl
      have c3 : wa.cell? ⟨w.heap.size, 3, none⟩ = some (.int .i64 s0) := B1.out.c 3 rfl
      have c4 : wa.cell? ⟨w.heap.size, 4, none⟩ = some (.int .i64 s1) := B1.out.c 4 rfl
      have c5 : wa.cell? ⟨w.heap.size, 5, none⟩ = some (.int .i64 s2) := B1.out.c 5 rfl
      have c6 : wa.cell? ⟨w.heap.size, 6, none⟩ = some (.int .i64 n) := B1.out.c 6 rfl
      go_wp2_with fail
      refine (HK.out _).mono ?_
      rintro e w1 ⟨rfl, x1⟩
      clear c0 c1 c2 c3 c4 c5 c6
      have B1 : Hid (HV w1 w.heap.size [.int .i64 b0, .int .i64 b1, .int .i64 b2, .int .i64 s0, .int .i64 s1, .int .i64 s2, .int .i64 n]) := B1.out.ext x1
      have B2 : Hid (HV w1 (w.heap.size + 1) [.int .i64 v0, .int .i64 v1, .int .i64 v2]) := B2.out.ext x1
      have B3 : Hid (HV w1 (w.heap.size + 2) [.int .i64 0, .int .i64 0, .int .i64 0, .int .i64 0, .int .i64 0, .int .i64 0, .int .i64 0]) := B3.out.ext x1
      have HX : Hid (Ext w w1) := HX.out.trans x1
      clear x1
      have d0 : w1.cell? ⟨w.heap.size + 1, 0, none⟩ = some (.int .i64 v0) := B2.out.c 0 rfl
      have d1 : w1.cell? ⟨w.heap.size + 1, 1, none⟩ = some (.int .i64 v1) := B2.out.c 1 rfl
      have d2 : w1.cell? ⟨w.heap.size + 1, 2, none⟩ = some (.int .i64 v2) := B2.out.c 2 rfl
      go_wp2_with fail
      refine (HC.out _).mono ?_
      rintro e w2 ⟨rfl, x2⟩
      clear d0 d1 d2
      have B1 : Hid (HV w2 w.heap.size [.int .i64 b0, .int .i64 b1, .int .i64 b2, .int .i64 s0, .int .i64 s1, .int .i64 s2, .int .i64 n]) := B1.out.ext x2
      have B2 : Hid (HV w2 (w.heap.size + 1) [.int .i64 v0, .int .i64 v1, .int .i64 v2]) := B2.out.ext x2
      have B3 : Hid (HV w2 (w.heap.size + 2) [.int .i64 0, .int .i64 0, .int .i64 0, .int .i64 0, .int .i64 0, .int .i64 0, .int .i64 0]) := B3.out.ext x2
      have HX : Hid (Ext w w2) := HX.out.trans x2
      clear x2
      have o0 : w2.cell? ⟨w.heap.size + 2, 0, none⟩ = some (.int .i64 0) := B3.out.c 0 rfl
      have o1 : w2.cell? ⟨w.heap.size + 2, 1, none⟩ = some (.int .i64 0) := B3.out.c 1 rfl
      have o2 : w2.cell? ⟨w.heap.size + 2, 2, none⟩ = some (.int .i64 0) := B3.out.c 2 rfl
      have o3 : w2.cell? ⟨w.heap.size + 2, 3, none⟩ = some (.int .i64 0) := B3.out.c 3 rfl
      have o4 : w2.cell? ⟨w.heap.size + 2, 4, none⟩ = some (.int .i64 0) := B3.out.c 4 rfl
      have o5 : w2.cell? ⟨w.heap.size + 2, 5, none⟩ = some (.int .i64 0) := B3.out.c 5 rfl
      have o6 : w2.cell? ⟨w.heap.size + 2, 6, none⟩ = some (.int .i64 0) := B3.out.c 6 rfl
      have y0 : w2.frozen? ⟨w.heap.size + 2, 0, none⟩ = false := B3.out.f 0 rfl
      have y1 : w2.frozen? ⟨w.heap.size + 2, 1, none⟩ = false := B3.out.f 1 rfl
      have y2 : w2.frozen? ⟨w.heap.size + 2, 2, none⟩ = false := B3.out.f 2 rfl
      have y3 : w2.frozen? ⟨w.heap.size + 2, 3, none⟩ = false := B3.out.f 3 rfl
      have y4 : w2.frozen? ⟨w.heap.size + 2, 4, none⟩ = false := B3.out.f 4 rfl
      have y5 : w2.frozen? ⟨w.heap.size + 2, 5, none⟩ = false := B3.out.f 5 rfl
      have y6 : w2.frozen? ⟨w.heap.size + 2, 6, none⟩ = false := B3.out.f 6 rfl
      go_wp2_with fail
      refine bodyPost_ret (v := .tuple #[.agg #[.int .i64 0, .int .i64 0, .int .i64 0, .int .i64 0, .int .i64 0, .int .i64 0, .int .i64 0], .bool false, .int .i64 1]) (by simp [results, Try.results9, go_sem, o0, o1, o2, o3, o4, o5, o6]) rfl ⟨rfl, ?_⟩
      exact (Ext.set (Ext.set (Ext.set (Ext.set (Ext.set (Ext.set (Ext.set HX.out lt2.out _) lt2.out _) lt2.out _) lt2.out _) lt2.out _) lt2.out _) lt2.out _)
    · obtain ⟨ho, hb, hn, hs0, hs1, hs2⟩ := okLn_parts h1
      obtain ⟨k0, k1, k2⟩ := ok3_parts h2
      have g0 := okW_bounds k0
      have g1 := okW_bounds k1
      have g2 := okW_bounds k2
      have HN : Hid (∀ w, Calls Try.prog 21 #[.agg #[.int .i64 v0, .int .i64 v1, .int .i64 v2], .agg #[.int .i64 b0, .int .i64 b1, .int .i64 b2]] w fun e w' => e = .returned (.bool (ngh v0 v1 v2 b0 b1 b2)) ∧ Ext w w') := fun w => isnear_any v0 v1 v2 b0 b1 b2 w h2 hb
      have HW : Hid (∀ w, Calls Try.prog 22 #[.agg #[.int .i64 b0, .int .i64 b1, .int .i64 b2, .int .i64 s0, .int .i64 s1, .int .i64 s2, .int .i64 n]] w fun e w' => e = .returned (.agg #[.int .i64 s0, .int .i64 s1, .int .i64 s2, .int .i64 n]) ∧ Ext w w') := windowof_any b0 b1 b2 s0 s1 s2 n
      have HT : Hid (∀ w, Calls Try.prog 23 #[.agg #[.int .i64 s0, .int .i64 s1, .int .i64 s2, .int .i64 n], .agg #[.int .i64 v0, .int .i64 v1, .int .i64 v2], .func (.func 24) #[] #[]] w fun e w' => e = .returned (.agg #[.int .i64 (s0 + v0), .int .i64 (s1 + v1), .int .i64 (s2 + v2), .int .i64 (n + 1)]) ∧ Ext w w') := fun w => with_any s0 s1 s2 n v0 v1 v2 w hn (by omega) (by omega) (by omega)
      have HO : Hid (∀ w, Calls Try.prog 25 #[.agg #[.int .i64 (s0 + v0), .int .i64 (s1 + v1), .int .i64 (s2 + v2), .int .i64 (n + 1)], .int .i64 32] w fun e w' => e = .returned (.bool (decide (n + 1 < 32))) ∧ Ext w w') := fun w => by
        have h := isopen_any (s0 + v0) (s1 + v1) (s2 + v2) (n + 1) w
        have e : opn (s0 + v0) (s1 + v1) (s2 + v2) (n + 1) = decide (n + 1 < 32) := by
          unfold opn; rw [if_neg (by omega)]; simp; omega
        rw [e] at h
        exact h
      have HM : Hid (∀ w, Calls Try.prog 26 #[.agg #[.int .i64 (s0 + v0), .int .i64 (s1 + v1), .int .i64 (s2 + v2)]] w fun e w' => e = .returned (vres (nr (s0 + v0)) (nr (s1 + v1)) (nr (s2 + v2))) ∧ Ext w w') := fun w => mean_any _ _ _ w (by omega) (by omega) (by omega)
      have ec : chkLn b0 b1 b2 s0 s1 s2 n = 0 := by unfold chkLn; rw [h1]; rfl
      have ed : chk3 v0 v1 v2 = 0 := by unfold chk3; rw [h2]; rfl
      rw [ec] at HK
      rw [ed] at HC
      have er : Hid (takeL b0 b1 b2 s0 s1 s2 n v0 v1 v2 = if ngh v0 v1 v2 b0 b1 b2 then (if n + 1 < 32 then .tuple #[.agg #[.int .i64 b0, .int .i64 b1, .int .i64 b2, .int .i64 (s0 + v0), .int .i64 (s1 + v1), .int .i64 (s2 + v2), .int .i64 (n + 1)], .bool false, .int .i64 0] else if ok3 (nr (s0 + v0)) (nr (s1 + v1)) (nr (s2 + v2)) then .tuple #[.agg #[.int .i64 (nr (s0 + v0)), .int .i64 (nr (s1 + v1)), .int .i64 (nr (s2 + v2)), .int .i64 0, .int .i64 0, .int .i64 0, .int .i64 0], .bool true, .int .i64 0] else .tuple #[.agg #[.int .i64 0, .int .i64 0, .int .i64 0, .int .i64 0, .int .i64 0, .int .i64 0, .int .i64 0], .bool false, .int .i64 2]) else .tuple #[.agg #[.int .i64 b0, .int .i64 b1, .int .i64 b2, .int .i64 0, .int .i64 0, .int .i64 0, .int .i64 0], .bool false, .int .i64 0]) := by show _ = _; unfold takeL; rw [h1, h2]; rfl
      generalize takeL b0 b1 b2 s0 s1 s2 n v0 v1 v2 = R at *
      generalize ngh v0 v1 v2 b0 b1 b2 = p at *
      clear ec ed h1 h2 hb ho k0 k1 k2 hs0 hs1 hs2 g0 g1 g2
      generalize s0 + v0 = t0 at *
      generalize s1 + v1 = t1 at *
      generalize s2 + v2 = t2 at *
      cases p
      · have ef : R = .tuple #[.agg #[.int .i64 b0, .int .i64 b1, .int .i64 b2, .int .i64 0, .int .i64 0, .int .i64 0, .int .i64 0], .bool false, .int .i64 0] := er.out
        subst ef
        clear er
        go_enter Try.func9, Try.ntmps9
        go_upto_region 1 with fail
        generalize (((w.alloc (.cells #[.int .i64 b0, .int .i64 b1, .int .i64 b2, .int .i64 s0, .int .i64 s1, .int .i64 s2, .int .i64 n] 26)).alloc (.cells #[.int .i64 v0, .int .i64 v1, .int .i64 v2] 24)).alloc (.cells #[.int .i64 0, .int .i64 0, .int .i64 0, .int .i64 0, .int .i64 0, .int .i64 0, .int .i64 0] 26)) = wa at *
        have c0 : wa.cell? ⟨w.heap.size, 0, none⟩ = some (.int .i64 b0) := B1.out.c 0 rfl
        have c1 : wa.cell? ⟨w.heap.size, 1, none⟩ = some (.int .i64 b1) := B1.out.c 1 rfl
        have c2 : wa.cell? ⟨w.heap.size, 2, none⟩ = some (.int .i64 b2) := B1.out.c 2 rfl
        have c3 : wa.cell? ⟨w.heap.size, 3, none⟩ = some (.int .i64 s0) := B1.out.c 3 rfl
        have c4 : wa.cell? ⟨w.heap.size, 4, none⟩ = some (.int .i64 s1) := B1.out.c 4 rfl
        have c5 : wa.cell? ⟨w.heap.size, 5, none⟩ = some (.int .i64 s2) := B1.out.c 5 rfl
        have c6 : wa.cell? ⟨w.heap.size, 6, none⟩ = some (.int .i64 n) := B1.out.c 6 rfl
        go_wp2_with fail
        refine (HK.out _).mono ?_
        rintro e w1 ⟨rfl, x1⟩
        clear c0 c1 c2 c3 c4 c5 c6
        have B1 : Hid (HV w1 w.heap.size [.int .i64 b0, .int .i64 b1, .int .i64 b2, .int .i64 s0, .int .i64 s1, .int .i64 s2, .int .i64 n]) := B1.out.ext x1
        have B2 : Hid (HV w1 (w.heap.size + 1) [.int .i64 v0, .int .i64 v1, .int .i64 v2]) := B2.out.ext x1
        have B3 : Hid (HV w1 (w.heap.size + 2) [.int .i64 0, .int .i64 0, .int .i64 0, .int .i64 0, .int .i64 0, .int .i64 0, .int .i64 0]) := B3.out.ext x1
        have HX : Hid (Ext w w1) := HX.out.trans x1
        clear x1
        have d0 : w1.cell? ⟨w.heap.size + 1, 0, none⟩ = some (.int .i64 v0) := B2.out.c 0 rfl
        have d1 : w1.cell? ⟨w.heap.size + 1, 1, none⟩ = some (.int .i64 v1) := B2.out.c 1 rfl
        have d2 : w1.cell? ⟨w.heap.size + 1, 2, none⟩ = some (.int .i64 v2) := B2.out.c 2 rfl
        go_upto_region 3 with (go_at_call 20; refine (HC.out _).mono ?_; rintro e w2 ⟨rfl, x2⟩)
        clear d0 d1 d2 HK HC
        have B1 : Hid (HV w2 w.heap.size [.int .i64 b0, .int .i64 b1, .int .i64 b2, .int .i64 s0, .int .i64 s1, .int .i64 s2, .int .i64 n]) := B1.out.ext x2
        have B2 : Hid (HV w2 (w.heap.size + 1) [.int .i64 v0, .int .i64 v1, .int .i64 v2]) := B2.out.ext x2
        have B3 : Hid (HV w2 (w.heap.size + 2) [.int .i64 0, .int .i64 0, .int .i64 0, .int .i64 0, .int .i64 0, .int .i64 0, .int .i64 0]) := B3.out.ext x2
        have HX : Hid (Ext w w2) := HX.out.trans x2
        clear x2
        have d0 : w2.cell? ⟨w.heap.size + 1, 0, none⟩ = some (.int .i64 v0) := B2.out.c 0 rfl
        have d1 : w2.cell? ⟨w.heap.size + 1, 1, none⟩ = some (.int .i64 v1) := B2.out.c 1 rfl
        have d2 : w2.cell? ⟨w.heap.size + 1, 2, none⟩ = some (.int .i64 v2) := B2.out.c 2 rfl
        have c0 : w2.cell? ⟨w.heap.size, 0, none⟩ = some (.int .i64 b0) := B1.out.c 0 rfl
        have c1 : w2.cell? ⟨w.heap.size, 1, none⟩ = some (.int .i64 b1) := B1.out.c 1 rfl
        have c2 : w2.cell? ⟨w.heap.size, 2, none⟩ = some (.int .i64 b2) := B1.out.c 2 rfl
        go_upto_region 4 with (go_at_call 21; refine (HN.out _).mono ?_; rintro e w3 ⟨rfl, x3⟩)
        clear d0 d1 d2 c0 c1 c2
        have B1 : Hid (HV w3 w.heap.size [.int .i64 b0, .int .i64 b1, .int .i64 b2, .int .i64 s0, .int .i64 s1, .int .i64 s2, .int .i64 n]) := B1.out.ext x3
        have B2 : Hid (HV w3 (w.heap.size + 1) [.int .i64 v0, .int .i64 v1, .int .i64 v2]) := B2.out.ext x3
        have B3 : Hid (HV w3 (w.heap.size + 2) [.int .i64 0, .int .i64 0, .int .i64 0, .int .i64 0, .int .i64 0, .int .i64 0, .int .i64 0]) := B3.out.ext x3
        have HX : Hid (Ext w w3) := HX.out.trans x3
        clear x3
        have c0 : w3.cell? ⟨w.heap.size, 0, none⟩ = some (.int .i64 b0) := B1.out.c 0 rfl
        have c1 : w3.cell? ⟨w.heap.size, 1, none⟩ = some (.int .i64 b1) := B1.out.c 1 rfl
        have c2 : w3.cell? ⟨w.heap.size, 2, none⟩ = some (.int .i64 b2) := B1.out.c 2 rfl
        have o0 : w3.cell? ⟨w.heap.size + 2, 0, none⟩ = some (.int .i64 0) := B3.out.c 0 rfl
        have o1 : w3.cell? ⟨w.heap.size + 2, 1, none⟩ = some (.int .i64 0) := B3.out.c 1 rfl
        have o2 : w3.cell? ⟨w.heap.size + 2, 2, none⟩ = some (.int .i64 0) := B3.out.c 2 rfl
        have o3 : w3.cell? ⟨w.heap.size + 2, 3, none⟩ = some (.int .i64 0) := B3.out.c 3 rfl
        have o4 : w3.cell? ⟨w.heap.size + 2, 4, none⟩ = some (.int .i64 0) := B3.out.c 4 rfl
        have o5 : w3.cell? ⟨w.heap.size + 2, 5, none⟩ = some (.int .i64 0) := B3.out.c 5 rfl
        have o6 : w3.cell? ⟨w.heap.size + 2, 6, none⟩ = some (.int .i64 0) := B3.out.c 6 rfl
        have y0 : w3.frozen? ⟨w.heap.size + 2, 0, none⟩ = false := B3.out.f 0 rfl
        have y1 : w3.frozen? ⟨w.heap.size + 2, 1, none⟩ = false := B3.out.f 1 rfl
        have y2 : w3.frozen? ⟨w.heap.size + 2, 2, none⟩ = false := B3.out.f 2 rfl
        have y3 : w3.frozen? ⟨w.heap.size + 2, 3, none⟩ = false := B3.out.f 3 rfl
        have y4 : w3.frozen? ⟨w.heap.size + 2, 4, none⟩ = false := B3.out.f 4 rfl
        have y5 : w3.frozen? ⟨w.heap.size + 2, 5, none⟩ = false := B3.out.f 5 rfl
        have y6 : w3.frozen? ⟨w.heap.size + 2, 6, none⟩ = false := B3.out.f 6 rfl
        go_wp2_with fail
        refine bodyPost_ret (v := .tuple #[.agg #[.int .i64 b0, .int .i64 b1, .int .i64 b2, .int .i64 0, .int .i64 0, .int .i64 0, .int .i64 0], .bool false, .int .i64 0]) (by simp [results, Try.results9, go_sem, o0, o1, o2, o3, o4, o5, o6]) rfl ⟨rfl, ?_⟩
        exact (Ext.set (Ext.set (Ext.set (Ext.set (Ext.set (Ext.set (Ext.set HX.out lt2.out _) lt2.out _) lt2.out _) lt2.out _) lt2.out _) lt2.out _) lt2.out _)
      · go_enter Try.func9, Try.ntmps9
        go_upto_region 1 with fail
        generalize (((w.alloc (.cells #[.int .i64 b0, .int .i64 b1, .int .i64 b2, .int .i64 s0, .int .i64 s1, .int .i64 s2, .int .i64 n] 26)).alloc (.cells #[.int .i64 v0, .int .i64 v1, .int .i64 v2] 24)).alloc (.cells #[.int .i64 0, .int .i64 0, .int .i64 0, .int .i64 0, .int .i64 0, .int .i64 0, .int .i64 0] 26)) = wa at *
        have c0 : wa.cell? ⟨w.heap.size, 0, none⟩ = some (.int .i64 b0) := B1.out.c 0 rfl
        have c1 : wa.cell? ⟨w.heap.size, 1, none⟩ = some (.int .i64 b1) := B1.out.c 1 rfl
        have c2 : wa.cell? ⟨w.heap.size, 2, none⟩ = some (.int .i64 b2) := B1.out.c 2 rfl
        have c3 : wa.cell? ⟨w.heap.size, 3, none⟩ = some (.int .i64 s0) := B1.out.c 3 rfl
        have c4 : wa.cell? ⟨w.heap.size, 4, none⟩ = some (.int .i64 s1) := B1.out.c 4 rfl
        have c5 : wa.cell? ⟨w.heap.size, 5, none⟩ = some (.int .i64 s2) := B1.out.c 5 rfl
        have c6 : wa.cell? ⟨w.heap.size, 6, none⟩ = some (.int .i64 n) := B1.out.c 6 rfl
        go_wp2_with fail
        refine (HK.out _).mono ?_
        rintro e w1 ⟨rfl, x1⟩
        clear c0 c1 c2 c3 c4 c5 c6
        have B1 : Hid (HV w1 w.heap.size [.int .i64 b0, .int .i64 b1, .int .i64 b2, .int .i64 s0, .int .i64 s1, .int .i64 s2, .int .i64 n]) := B1.out.ext x1
        have B2 : Hid (HV w1 (w.heap.size + 1) [.int .i64 v0, .int .i64 v1, .int .i64 v2]) := B2.out.ext x1
        have B3 : Hid (HV w1 (w.heap.size + 2) [.int .i64 0, .int .i64 0, .int .i64 0, .int .i64 0, .int .i64 0, .int .i64 0, .int .i64 0]) := B3.out.ext x1
        have HX : Hid (Ext w w1) := HX.out.trans x1
        clear x1
        have d0 : w1.cell? ⟨w.heap.size + 1, 0, none⟩ = some (.int .i64 v0) := B2.out.c 0 rfl
        have d1 : w1.cell? ⟨w.heap.size + 1, 1, none⟩ = some (.int .i64 v1) := B2.out.c 1 rfl
        have d2 : w1.cell? ⟨w.heap.size + 1, 2, none⟩ = some (.int .i64 v2) := B2.out.c 2 rfl
        go_upto_region 3 with (go_at_call 20; refine (HC.out _).mono ?_; rintro e w2 ⟨rfl, x2⟩)
        clear d0 d1 d2 HK HC
        have B1 : Hid (HV w2 w.heap.size [.int .i64 b0, .int .i64 b1, .int .i64 b2, .int .i64 s0, .int .i64 s1, .int .i64 s2, .int .i64 n]) := B1.out.ext x2
        have B2 : Hid (HV w2 (w.heap.size + 1) [.int .i64 v0, .int .i64 v1, .int .i64 v2]) := B2.out.ext x2
        have B3 : Hid (HV w2 (w.heap.size + 2) [.int .i64 0, .int .i64 0, .int .i64 0, .int .i64 0, .int .i64 0, .int .i64 0, .int .i64 0]) := B3.out.ext x2
        have HX : Hid (Ext w w2) := HX.out.trans x2
        clear x2
        have d0 : w2.cell? ⟨w.heap.size + 1, 0, none⟩ = some (.int .i64 v0) := B2.out.c 0 rfl
        have d1 : w2.cell? ⟨w.heap.size + 1, 1, none⟩ = some (.int .i64 v1) := B2.out.c 1 rfl
        have d2 : w2.cell? ⟨w.heap.size + 1, 2, none⟩ = some (.int .i64 v2) := B2.out.c 2 rfl
        have c0 : w2.cell? ⟨w.heap.size, 0, none⟩ = some (.int .i64 b0) := B1.out.c 0 rfl
        have c1 : w2.cell? ⟨w.heap.size, 1, none⟩ = some (.int .i64 b1) := B1.out.c 1 rfl
        have c2 : w2.cell? ⟨w.heap.size, 2, none⟩ = some (.int .i64 b2) := B1.out.c 2 rfl
        go_upto_region 5 with (go_at_call 21; refine (HN.out _).mono ?_; rintro e w3 ⟨rfl, x3⟩)
        clear d0 d1 d2 c0 c1 c2 HN
        have B1 : Hid (HV w3 w.heap.size [.int .i64 b0, .int .i64 b1, .int .i64 b2, .int .i64 s0, .int .i64 s1, .int .i64 s2, .int .i64 n]) := B1.out.ext x3
        have B2 : Hid (HV w3 (w.heap.size + 1) [.int .i64 v0, .int .i64 v1, .int .i64 v2]) := B2.out.ext x3
        have B3 : Hid (HV w3 (w.heap.size + 2) [.int .i64 0, .int .i64 0, .int .i64 0, .int .i64 0, .int .i64 0, .int .i64 0, .int .i64 0]) := B3.out.ext x3
        have HX : Hid (Ext w w3) := HX.out.trans x3
        clear x3
        go_cut [7] (fun v7 wx => ∃ g : Nat, v7 = .pointer (some ⟨g, 0, none⟩) ∧ w.heap.size + 2 < g ∧ Hid (HV wx g [.int .i64 t0, .int .i64 t1, .int .i64 t2, .int .i64 (n + 1)]) ∧ Hid (Ext w3 wx))
        case first =>
          have c0 : w3.cell? ⟨w.heap.size, 0, none⟩ = some (.int .i64 b0) := B1.out.c 0 rfl
          have c1 : w3.cell? ⟨w.heap.size, 1, none⟩ = some (.int .i64 b1) := B1.out.c 1 rfl
          have c2 : w3.cell? ⟨w.heap.size, 2, none⟩ = some (.int .i64 b2) := B1.out.c 2 rfl
          have c3 : w3.cell? ⟨w.heap.size, 3, none⟩ = some (.int .i64 s0) := B1.out.c 3 rfl
          have c4 : w3.cell? ⟨w.heap.size, 4, none⟩ = some (.int .i64 s1) := B1.out.c 4 rfl
          have c5 : w3.cell? ⟨w.heap.size, 5, none⟩ = some (.int .i64 s2) := B1.out.c 5 rfl
          have c6 : w3.cell? ⟨w.heap.size, 6, none⟩ = some (.int .i64 n) := B1.out.c 6 rfl
          have d0 : w3.cell? ⟨w.heap.size + 1, 0, none⟩ = some (.int .i64 v0) := B2.out.c 0 rfl
          have d1 : w3.cell? ⟨w.heap.size + 1, 1, none⟩ = some (.int .i64 v1) := B2.out.c 1 rfl
          have d2 : w3.cell? ⟨w.heap.size + 1, 2, none⟩ = some (.int .i64 v2) := B2.out.c 2 rfl
          have lt3 : w.heap.size + 2 < w3.heap.size := B3.out.1
          obtain ⟨nea, neb, nec, ned⟩ : w.heap.size ≠ w3.heap.size ∧ w3.heap.size ≠ w.heap.size ∧ w.heap.size + 1 ≠ w3.heap.size ∧ w3.heap.size ≠ w.heap.size + 1 := by omega
          clear HO HM er
          go_region_held3 (fun w' => w'.cell? ⟨w.heap.size, 0, none⟩ = some (.int .i64 b0) ∧ w'.cell? ⟨w.heap.size, 1, none⟩ = some (.int .i64 b1) ∧ w'.cell? ⟨w.heap.size, 2, none⟩ = some (.int .i64 b2) ∧ w'.cell? ⟨w.heap.size, 3, none⟩ = some (.int .i64 s0) ∧ w'.cell? ⟨w.heap.size, 4, none⟩ = some (.int .i64 s1) ∧ w'.cell? ⟨w.heap.size, 5, none⟩ = some (.int .i64 s2) ∧ w'.cell? ⟨w.heap.size, 6, none⟩ = some (.int .i64 n) ∧ w'.cell? ⟨w.heap.size + 1, 0, none⟩ = some (.int .i64 v0) ∧ w'.cell? ⟨w.heap.size + 1, 1, none⟩ = some (.int .i64 v1) ∧ w'.cell? ⟨w.heap.size + 1, 2, none⟩ = some (.int .i64 v2)) (first | (go_keep; done) | (refine ⟨?_, ?_, ?_, ?_, ?_, ?_, ?_, ?_, ?_, ?_⟩ <;> (rw [World.cell?_setCell_far _ _ _ _ (by dsimp only; omega), World.cell?_setCell_far _ _ _ _ (by dsimp only; omega), World.cell?_setCell_far _ _ _ _ (by dsimp only; omega), World.cell?_setCell_far _ _ _ _ (by dsimp only; omega)]; with_reducible assumption)) | skip) (first | (go_at_call 22; refine (HW.out _).mono ?_; rintro e w4 ⟨rfl, zw4⟩; have Yw4 : Ext w3 w4 := Ext.trans (by repeat (first | with_reducible assumption | with_reducible exact Ext.refl _ | with_reducible refine Ext.drew ?_ | with_reducible refine Ext.drewN ?_ _ | with_reducible refine Ext.alloc ?_ _ | with_reducible refine Ext.set ?_ (by first | exact Nat.le_refl _ | (dsimp only; omega) | (simp; done)) _)) zw4; have lw40 : w4.cell? ⟨w.heap.size, 0, none⟩ = some (.int .i64 b0) := (B1.out.ext Yw4).c 0 rfl; have lw41 : w4.cell? ⟨w.heap.size, 1, none⟩ = some (.int .i64 b1) := (B1.out.ext Yw4).c 1 rfl; have lw42 : w4.cell? ⟨w.heap.size, 2, none⟩ = some (.int .i64 b2) := (B1.out.ext Yw4).c 2 rfl; have lw43 : w4.cell? ⟨w.heap.size, 3, none⟩ = some (.int .i64 s0) := (B1.out.ext Yw4).c 3 rfl; have lw44 : w4.cell? ⟨w.heap.size, 4, none⟩ = some (.int .i64 s1) := (B1.out.ext Yw4).c 4 rfl; have lw45 : w4.cell? ⟨w.heap.size, 5, none⟩ = some (.int .i64 s2) := (B1.out.ext Yw4).c 5 rfl; have lw46 : w4.cell? ⟨w.heap.size, 6, none⟩ = some (.int .i64 n) := (B1.out.ext Yw4).c 6 rfl; have mw40 : w4.cell? ⟨w.heap.size + 1, 0, none⟩ = some (.int .i64 v0) := (B2.out.ext Yw4).c 0 rfl; have mw41 : w4.cell? ⟨w.heap.size + 1, 1, none⟩ = some (.int .i64 v1) := (B2.out.ext Yw4).c 1 rfl; have mw42 : w4.cell? ⟨w.heap.size + 1, 2, none⟩ = some (.int .i64 v2) := (B2.out.ext Yw4).c 2 rfl; obtain ⟨new4a, new4b, new4c, new4d, lew4⟩ : w.heap.size ≠ w4.heap.size ∧ w4.heap.size ≠ w.heap.size ∧ w.heap.size + 1 ≠ w4.heap.size ∧ w4.heap.size ≠ w.heap.size + 1 ∧ w3.heap.size ≤ w4.heap.size := (by have := Yw4.size; omega); first | (have G : Hid (HV w4 w3.heap.size [.int .i64 0, .int .i64 0, .int .i64 0, .int .i64 0]) := (hv_at (w := w3) (T := 52) rfl).drew.ext zw4; obtain ⟨g0w4, g1w4, g2w4, g3w4⟩ := G.out.k4; obtain ⟨f0w4, f1w4, f2w4, f3w4⟩ := G.out.z4) | (have G : Hid (HV w4 w3.heap.size [.int .i64 0, .int .i64 0, .int .i64 0, .int .i64 0]) := (hv_at (w := w3) (T := 52) rfl).ext zw4; obtain ⟨g0w4, g1w4, g2w4, g3w4⟩ := G.out.k4; obtain ⟨f0w4, f1w4, f2w4, f3w4⟩ := G.out.z4) | skip) | (go_at_call 23; refine (HT.out _).mono ?_; rintro e w5 ⟨rfl, zw5⟩; have Yw5 : Ext w3 w5 := Ext.trans (by repeat (first | with_reducible assumption | with_reducible exact Ext.refl _ | with_reducible refine Ext.drew ?_ | with_reducible refine Ext.drewN ?_ _ | with_reducible refine Ext.alloc ?_ _ | with_reducible refine Ext.set ?_ (by first | exact Nat.le_refl _ | (dsimp only; omega) | (simp; done)) _)) zw5; have lw50 : w5.cell? ⟨w.heap.size, 0, none⟩ = some (.int .i64 b0) := (B1.out.ext Yw5).c 0 rfl; have lw51 : w5.cell? ⟨w.heap.size, 1, none⟩ = some (.int .i64 b1) := (B1.out.ext Yw5).c 1 rfl; have lw52 : w5.cell? ⟨w.heap.size, 2, none⟩ = some (.int .i64 b2) := (B1.out.ext Yw5).c 2 rfl; have lw53 : w5.cell? ⟨w.heap.size, 3, none⟩ = some (.int .i64 s0) := (B1.out.ext Yw5).c 3 rfl; have lw54 : w5.cell? ⟨w.heap.size, 4, none⟩ = some (.int .i64 s1) := (B1.out.ext Yw5).c 4 rfl; have lw55 : w5.cell? ⟨w.heap.size, 5, none⟩ = some (.int .i64 s2) := (B1.out.ext Yw5).c 5 rfl; have lw56 : w5.cell? ⟨w.heap.size, 6, none⟩ = some (.int .i64 n) := (B1.out.ext Yw5).c 6 rfl; have mw50 : w5.cell? ⟨w.heap.size + 1, 0, none⟩ = some (.int .i64 v0) := (B2.out.ext Yw5).c 0 rfl; have mw51 : w5.cell? ⟨w.heap.size + 1, 1, none⟩ = some (.int .i64 v1) := (B2.out.ext Yw5).c 1 rfl; have mw52 : w5.cell? ⟨w.heap.size + 1, 2, none⟩ = some (.int .i64 v2) := (B2.out.ext Yw5).c 2 rfl; obtain ⟨new5a, new5b, new5c, new5d, lew5⟩ : w.heap.size ≠ w5.heap.size ∧ w5.heap.size ≠ w.heap.size ∧ w.heap.size + 1 ≠ w5.heap.size ∧ w5.heap.size ≠ w.heap.size + 1 ∧ w3.heap.size ≤ w5.heap.size := (by have := Yw5.size; omega); first | (have G : Hid (HV w5 w3.heap.size [.int .i64 0, .int .i64 0, .int .i64 0, .int .i64 0]) := G.out.ext zw5; obtain ⟨g0w5, g1w5, g2w5, g3w5⟩ := G.out.k4; obtain ⟨f0w5, f1w5, f2w5, f3w5⟩ := G.out.z4) | (have G : Hid (HV w5 w3.heap.size [.int .i64 0, .int .i64 0, .int .i64 0, .int .i64 0]) := G.out.drew.ext zw5; obtain ⟨g0w5, g1w5, g2w5, g3w5⟩ := G.out.k4; obtain ⟨f0w5, f1w5, f2w5, f3w5⟩ := G.out.z4) | (have G : Hid (HV w5 w4.heap.size [.int .i64 0, .int .i64 0, .int .i64 0, .int .i64 0]) := (hv_at (w := w4) (T := 52) rfl).ext zw5; obtain ⟨g0w5, g1w5, g2w5, g3w5⟩ := G.out.k4; obtain ⟨f0w5, f1w5, f2w5, f3w5⟩ := G.out.z4) | (have G : Hid (HV w5 w4.heap.size [.int .i64 0, .int .i64 0, .int .i64 0, .int .i64 0]) := (hv_at (w := w4) (T := 52) rfl).drew.ext zw5; obtain ⟨g0w5, g1w5, g2w5, g3w5⟩ := G.out.k4; obtain ⟨f0w5, f1w5, f2w5, f3w5⟩ := G.out.z4) | skip))
          all_goals
            go_wp2_with fail
            go_meet
            first | exact ⟨w5.heap.size, rfl, by omega, hv_at rfl, Yw5.alloc _⟩ | exact ⟨w3.heap.size, rfl, lt3, ((((G.out.set 0 _).set 1 _).set 2 _).set 3 _), (((Yw5.set (Nat.le_refl _) _).set (Nat.le_refl _) _).set (Nat.le_refl _) _).set (Nat.le_refl _) _⟩ | exact ⟨w4.heap.size, rfl, by omega, ((((G.out.set 0 _).set 1 _).set 2 _).set 3 _), (((Yw5.set lew4 _).set lew4 _).set lew4 _).set lew4 _⟩
        case rest =>
          obtain ⟨g, rfl, hg, G, hx⟩ := hcut
          have hx := hx.out
          have B1 : Hid (HV wc w.heap.size [.int .i64 b0, .int .i64 b1, .int .i64 b2, .int .i64 s0, .int .i64 s1, .int .i64 s2, .int .i64 n]) := B1.out.ext hx
          have B2 : Hid (HV wc (w.heap.size + 1) [.int .i64 v0, .int .i64 v1, .int .i64 v2]) := B2.out.ext hx
          have B3 : Hid (HV wc (w.heap.size + 2) [.int .i64 0, .int .i64 0, .int .i64 0, .int .i64 0, .int .i64 0, .int .i64 0, .int .i64 0]) := B3.out.ext hx
          have HX : Hid (Ext w wc) := HX.out.trans hx
          clear hx
          clear HW HT
          have g0 : wc.cell? ⟨g, 0, none⟩ = some (.int .i64 t0) := G.out.c 0 rfl
          have g1 : wc.cell? ⟨g, 1, none⟩ = some (.int .i64 t1) := G.out.c 1 rfl
          have g2 : wc.cell? ⟨g, 2, none⟩ = some (.int .i64 t2) := G.out.c 2 rfl
          have g3 : wc.cell? ⟨g, 3, none⟩ = some (.int .i64 (n + 1)) := G.out.c 3 rfl
          by_cases h : n + 1 < 32
          · have ef : R = .tuple #[.agg #[.int .i64 b0, .int .i64 b1, .int .i64 b2, .int .i64 t0, .int .i64 t1, .int .i64 t2, .int .i64 (n + 1)], .bool false, .int .i64 0] := er.out.trans (if_pos h)
            subst ef
            have hd : decide (n + 1 < 32) = true := decide_eq_true h
            rw [hd] at HO
            clear er hd h HM
            go_upto_region 7 with (go_at_call 25; refine (HO.out _).mono ?_; rintro e w6 ⟨rfl, x6⟩)
            have G : Hid (HV w6 g [.int .i64 t0, .int .i64 t1, .int .i64 t2, .int .i64 (n + 1)]) := G.out.ext x6
            clear g0 g1 g2 g3
            have B1 : Hid (HV w6 w.heap.size [.int .i64 b0, .int .i64 b1, .int .i64 b2, .int .i64 s0, .int .i64 s1, .int .i64 s2, .int .i64 n]) := B1.out.ext x6
            have B2 : Hid (HV w6 (w.heap.size + 1) [.int .i64 v0, .int .i64 v1, .int .i64 v2]) := B2.out.ext x6
            have B3 : Hid (HV w6 (w.heap.size + 2) [.int .i64 0, .int .i64 0, .int .i64 0, .int .i64 0, .int .i64 0, .int .i64 0, .int .i64 0]) := B3.out.ext x6
            have HX : Hid (Ext w w6) := HX.out.trans x6
            clear x6
            have g0 : w6.cell? ⟨g, 0, none⟩ = some (.int .i64 t0) := G.out.c 0 rfl
            have g1 : w6.cell? ⟨g, 1, none⟩ = some (.int .i64 t1) := G.out.c 1 rfl
            have g2 : w6.cell? ⟨g, 2, none⟩ = some (.int .i64 t2) := G.out.c 2 rfl
            have g3 : w6.cell? ⟨g, 3, none⟩ = some (.int .i64 (n + 1)) := G.out.c 3 rfl
            have c0 : w6.cell? ⟨w.heap.size, 0, none⟩ = some (.int .i64 b0) := B1.out.c 0 rfl
            have c1 : w6.cell? ⟨w.heap.size, 1, none⟩ = some (.int .i64 b1) := B1.out.c 1 rfl
            have c2 : w6.cell? ⟨w.heap.size, 2, none⟩ = some (.int .i64 b2) := B1.out.c 2 rfl
            have o0 : w6.cell? ⟨w.heap.size + 2, 0, none⟩ = some (.int .i64 0) := B3.out.c 0 rfl
            have o1 : w6.cell? ⟨w.heap.size + 2, 1, none⟩ = some (.int .i64 0) := B3.out.c 1 rfl
            have o2 : w6.cell? ⟨w.heap.size + 2, 2, none⟩ = some (.int .i64 0) := B3.out.c 2 rfl
            have o3 : w6.cell? ⟨w.heap.size + 2, 3, none⟩ = some (.int .i64 0) := B3.out.c 3 rfl
            have o4 : w6.cell? ⟨w.heap.size + 2, 4, none⟩ = some (.int .i64 0) := B3.out.c 4 rfl
            have o5 : w6.cell? ⟨w.heap.size + 2, 5, none⟩ = some (.int .i64 0) := B3.out.c 5 rfl
            have o6 : w6.cell? ⟨w.heap.size + 2, 6, none⟩ = some (.int .i64 0) := B3.out.c 6 rfl
            have y0 : w6.frozen? ⟨w.heap.size + 2, 0, none⟩ = false := B3.out.f 0 rfl
            have y1 : w6.frozen? ⟨w.heap.size + 2, 1, none⟩ = false := B3.out.f 1 rfl
            have y2 : w6.frozen? ⟨w.heap.size + 2, 2, none⟩ = false := B3.out.f 2 rfl
            have y3 : w6.frozen? ⟨w.heap.size + 2, 3, none⟩ = false := B3.out.f 3 rfl
            have y4 : w6.frozen? ⟨w.heap.size + 2, 4, none⟩ = false := B3.out.f 4 rfl
            have y5 : w6.frozen? ⟨w.heap.size + 2, 5, none⟩ = false := B3.out.f 5 rfl
            have y6 : w6.frozen? ⟨w.heap.size + 2, 6, none⟩ = false := B3.out.f 6 rfl
            go_wp2_with fail
            refine bodyPost_ret (v := .tuple #[.agg #[.int .i64 b0, .int .i64 b1, .int .i64 b2, .int .i64 t0, .int .i64 t1, .int .i64 t2, .int .i64 (n + 1)], .bool false, .int .i64 0]) (by simp [results, Try.results9, go_sem, o0, o1, o2, o3, o4, o5, o6]) rfl ⟨rfl, ?_⟩
            exact (Ext.set (Ext.set (Ext.set (Ext.set (Ext.set (Ext.set (Ext.set HX.out lt2.out _) lt2.out _) lt2.out _) lt2.out _) lt2.out _) lt2.out _) lt2.out _)
          · have hd : decide (n + 1 < 32) = false := decide_eq_false h
            rw [hd] at HO
            have er : Hid (R = if ok3 (nr t0) (nr t1) (nr t2) then .tuple #[.agg #[.int .i64 (nr t0), .int .i64 (nr t1), .int .i64 (nr t2), .int .i64 0, .int .i64 0, .int .i64 0, .int .i64 0], .bool true, .int .i64 0] else .tuple #[.agg #[.int .i64 0, .int .i64 0, .int .i64 0, .int .i64 0, .int .i64 0, .int .i64 0, .int .i64 0], .bool false, .int .i64 2]) := er.out.trans (if_neg h)
            clear hd h
            generalize nr t0 = r0 at *
            generalize nr t1 = r1 at *
            generalize nr t2 = r2 at *
            cases ho : ok3 r0 r1 r2
            · rw [ho] at er
              have ev : vres r0 r1 r2 = .tuple #[.agg #[.int .i64 0, .int .i64 0, .int .i64 0], .int .i64 2] := by unfold vres; rw [ho]; rfl
              rw [ev] at HM
              have ef : R = .tuple #[.agg #[.int .i64 0, .int .i64 0, .int .i64 0, .int .i64 0, .int .i64 0, .int .i64 0, .int .i64 0], .bool false, .int .i64 2] := er.out
              subst ef
              clear er ho ev
              go_upto_region 8 with (go_at_call 25; refine (HO.out _).mono ?_; rintro e w6 ⟨rfl, x6⟩)
              have G : Hid (HV w6 g [.int .i64 t0, .int .i64 t1, .int .i64 t2, .int .i64 (n + 1)]) := G.out.ext x6
              clear g0 g1 g2 g3
              have B1 : Hid (HV w6 w.heap.size [.int .i64 b0, .int .i64 b1, .int .i64 b2, .int .i64 s0, .int .i64 s1, .int .i64 s2, .int .i64 n]) := B1.out.ext x6
              have B2 : Hid (HV w6 (w.heap.size + 1) [.int .i64 v0, .int .i64 v1, .int .i64 v2]) := B2.out.ext x6
              have B3 : Hid (HV w6 (w.heap.size + 2) [.int .i64 0, .int .i64 0, .int .i64 0, .int .i64 0, .int .i64 0, .int .i64 0, .int .i64 0]) := B3.out.ext x6
              have HX : Hid (Ext w w6) := HX.out.trans x6
              clear x6
              have g0 : w6.cell? ⟨g, 0, none⟩ = some (.int .i64 t0) := G.out.c 0 rfl
              have g1 : w6.cell? ⟨g, 1, none⟩ = some (.int .i64 t1) := G.out.c 1 rfl
              have g2 : w6.cell? ⟨g, 2, none⟩ = some (.int .i64 t2) := G.out.c 2 rfl
              go_upto_region 9 with (go_at_call 26; refine (HM.out _).mono ?_; rintro e w7 ⟨rfl, x7⟩)
              clear g0 g1 g2 HM HO G
              have B1 : Hid (HV w7 w.heap.size [.int .i64 b0, .int .i64 b1, .int .i64 b2, .int .i64 s0, .int .i64 s1, .int .i64 s2, .int .i64 n]) := B1.out.ext x7
              have B2 : Hid (HV w7 (w.heap.size + 1) [.int .i64 v0, .int .i64 v1, .int .i64 v2]) := B2.out.ext x7
              have B3 : Hid (HV w7 (w.heap.size + 2) [.int .i64 0, .int .i64 0, .int .i64 0, .int .i64 0, .int .i64 0, .int .i64 0, .int .i64 0]) := B3.out.ext x7
              have HX : Hid (Ext w w7) := HX.out.trans x7
              clear x7
              have lt7 : w.heap.size + 2 < w7.heap.size := B3.out.1
              have M : Hid (HV (w7.alloc (.cells #[.int .i64 0, .int .i64 0, .int .i64 0] 24)) w7.heap.size [.int .i64 0, .int .i64 0, .int .i64 0]) := hv_at rfl
              have B3 : Hid (HV (w7.alloc (.cells #[.int .i64 0, .int .i64 0, .int .i64 0] 24)) (w.heap.size + 2) [.int .i64 0, .int .i64 0, .int .i64 0, .int .i64 0, .int .i64 0, .int .i64 0, .int .i64 0]) := B3.out.alloc _
              have HX : Hid (Ext w (w7.alloc (.cells #[.int .i64 0, .int .i64 0, .int .i64 0] 24))) := HX.out.alloc _
              generalize (w7.alloc (.cells #[.int .i64 0, .int .i64 0, .int .i64 0] 24)) = w8 at *
              generalize w7.heap.size = m at *
              have m0 : w8.cell? ⟨m, 0, none⟩ = some (.int .i64 0) := M.out.c 0 rfl
              have m1 : w8.cell? ⟨m, 1, none⟩ = some (.int .i64 0) := M.out.c 1 rfl
              have m2 : w8.cell? ⟨m, 2, none⟩ = some (.int .i64 0) := M.out.c 2 rfl
              have o0 : w8.cell? ⟨w.heap.size + 2, 0, none⟩ = some (.int .i64 0) := B3.out.c 0 rfl
              have o1 : w8.cell? ⟨w.heap.size + 2, 1, none⟩ = some (.int .i64 0) := B3.out.c 1 rfl
              have o2 : w8.cell? ⟨w.heap.size + 2, 2, none⟩ = some (.int .i64 0) := B3.out.c 2 rfl
              have o3 : w8.cell? ⟨w.heap.size + 2, 3, none⟩ = some (.int .i64 0) := B3.out.c 3 rfl
              have o4 : w8.cell? ⟨w.heap.size + 2, 4, none⟩ = some (.int .i64 0) := B3.out.c 4 rfl
              have o5 : w8.cell? ⟨w.heap.size + 2, 5, none⟩ = some (.int .i64 0) := B3.out.c 5 rfl
              have o6 : w8.cell? ⟨w.heap.size + 2, 6, none⟩ = some (.int .i64 0) := B3.out.c 6 rfl
              have y0 : w8.frozen? ⟨w.heap.size + 2, 0, none⟩ = false := B3.out.f 0 rfl
              have y1 : w8.frozen? ⟨w.heap.size + 2, 1, none⟩ = false := B3.out.f 1 rfl
              have y2 : w8.frozen? ⟨w.heap.size + 2, 2, none⟩ = false := B3.out.f 2 rfl
              have y3 : w8.frozen? ⟨w.heap.size + 2, 3, none⟩ = false := B3.out.f 3 rfl
              have y4 : w8.frozen? ⟨w.heap.size + 2, 4, none⟩ = false := B3.out.f 4 rfl
              have y5 : w8.frozen? ⟨w.heap.size + 2, 5, none⟩ = false := B3.out.f 5 rfl
              have y6 : w8.frozen? ⟨w.heap.size + 2, 6, none⟩ = false := B3.out.f 6 rfl
              go_wp2_with fail
              refine bodyPost_ret (v := .tuple #[.agg #[.int .i64 0, .int .i64 0, .int .i64 0, .int .i64 0, .int .i64 0, .int .i64 0, .int .i64 0], .bool false, .int .i64 2]) (by simp [results, Try.results9, go_sem, o0, o1, o2, o3, o4, o5, o6]) rfl ⟨rfl, ?_⟩
              exact (Ext.set (Ext.set (Ext.set (Ext.set (Ext.set (Ext.set (Ext.set HX.out lt2.out _) lt2.out _) lt2.out _) lt2.out _) lt2.out _) lt2.out _) lt2.out _)
            · rw [ho] at er
              have ev : vres r0 r1 r2 = .tuple #[.agg #[.int .i64 r0, .int .i64 r1, .int .i64 r2], .int .i64 0] := by unfold vres; rw [ho]; rfl
              rw [ev] at HM
              have ef : R = .tuple #[.agg #[.int .i64 r0, .int .i64 r1, .int .i64 r2, .int .i64 0, .int .i64 0, .int .i64 0, .int .i64 0], .bool true, .int .i64 0] := er.out
              subst ef
              clear er ho ev
              go_upto_region 8 with (go_at_call 25; refine (HO.out _).mono ?_; rintro e w6 ⟨rfl, x6⟩)
              have G : Hid (HV w6 g [.int .i64 t0, .int .i64 t1, .int .i64 t2, .int .i64 (n + 1)]) := G.out.ext x6
              clear g0 g1 g2 g3
              have B1 : Hid (HV w6 w.heap.size [.int .i64 b0, .int .i64 b1, .int .i64 b2, .int .i64 s0, .int .i64 s1, .int .i64 s2, .int .i64 n]) := B1.out.ext x6
              have B2 : Hid (HV w6 (w.heap.size + 1) [.int .i64 v0, .int .i64 v1, .int .i64 v2]) := B2.out.ext x6
              have B3 : Hid (HV w6 (w.heap.size + 2) [.int .i64 0, .int .i64 0, .int .i64 0, .int .i64 0, .int .i64 0, .int .i64 0, .int .i64 0]) := B3.out.ext x6
              have HX : Hid (Ext w w6) := HX.out.trans x6
              clear x6
              have g0 : w6.cell? ⟨g, 0, none⟩ = some (.int .i64 t0) := G.out.c 0 rfl
              have g1 : w6.cell? ⟨g, 1, none⟩ = some (.int .i64 t1) := G.out.c 1 rfl
              have g2 : w6.cell? ⟨g, 2, none⟩ = some (.int .i64 t2) := G.out.c 2 rfl
              go_upto_region 9 with (go_at_call 26; refine (HM.out _).mono ?_; rintro e w7 ⟨rfl, x7⟩)
              clear g0 g1 g2 HM HO G
              have B1 : Hid (HV w7 w.heap.size [.int .i64 b0, .int .i64 b1, .int .i64 b2, .int .i64 s0, .int .i64 s1, .int .i64 s2, .int .i64 n]) := B1.out.ext x7
              have B2 : Hid (HV w7 (w.heap.size + 1) [.int .i64 v0, .int .i64 v1, .int .i64 v2]) := B2.out.ext x7
              have B3 : Hid (HV w7 (w.heap.size + 2) [.int .i64 0, .int .i64 0, .int .i64 0, .int .i64 0, .int .i64 0, .int .i64 0, .int .i64 0]) := B3.out.ext x7
              have HX : Hid (Ext w w7) := HX.out.trans x7
              clear x7
              have lt7 : w.heap.size + 2 < w7.heap.size := B3.out.1
              have M : Hid (HV (w7.alloc (.cells #[.int .i64 r0, .int .i64 r1, .int .i64 r2] 24)) w7.heap.size [.int .i64 r0, .int .i64 r1, .int .i64 r2]) := hv_at rfl
              have B3 : Hid (HV (w7.alloc (.cells #[.int .i64 r0, .int .i64 r1, .int .i64 r2] 24)) (w.heap.size + 2) [.int .i64 0, .int .i64 0, .int .i64 0, .int .i64 0, .int .i64 0, .int .i64 0, .int .i64 0]) := B3.out.alloc _
              have HX : Hid (Ext w (w7.alloc (.cells #[.int .i64 r0, .int .i64 r1, .int .i64 r2] 24))) := HX.out.alloc _
              generalize (w7.alloc (.cells #[.int .i64 r0, .int .i64 r1, .int .i64 r2] 24)) = w8 at *
              generalize w7.heap.size = m at *
              have m0 : w8.cell? ⟨m, 0, none⟩ = some (.int .i64 r0) := M.out.c 0 rfl
              have m1 : w8.cell? ⟨m, 1, none⟩ = some (.int .i64 r1) := M.out.c 1 rfl
              have m2 : w8.cell? ⟨m, 2, none⟩ = some (.int .i64 r2) := M.out.c 2 rfl
              have o0 : w8.cell? ⟨w.heap.size + 2, 0, none⟩ = some (.int .i64 0) := B3.out.c 0 rfl
              have o1 : w8.cell? ⟨w.heap.size + 2, 1, none⟩ = some (.int .i64 0) := B3.out.c 1 rfl
              have o2 : w8.cell? ⟨w.heap.size + 2, 2, none⟩ = some (.int .i64 0) := B3.out.c 2 rfl
              have o3 : w8.cell? ⟨w.heap.size + 2, 3, none⟩ = some (.int .i64 0) := B3.out.c 3 rfl
              have o4 : w8.cell? ⟨w.heap.size + 2, 4, none⟩ = some (.int .i64 0) := B3.out.c 4 rfl
              have o5 : w8.cell? ⟨w.heap.size + 2, 5, none⟩ = some (.int .i64 0) := B3.out.c 5 rfl
              have o6 : w8.cell? ⟨w.heap.size + 2, 6, none⟩ = some (.int .i64 0) := B3.out.c 6 rfl
              have y0 : w8.frozen? ⟨w.heap.size + 2, 0, none⟩ = false := B3.out.f 0 rfl
              have y1 : w8.frozen? ⟨w.heap.size + 2, 1, none⟩ = false := B3.out.f 1 rfl
              have y2 : w8.frozen? ⟨w.heap.size + 2, 2, none⟩ = false := B3.out.f 2 rfl
              have y3 : w8.frozen? ⟨w.heap.size + 2, 3, none⟩ = false := B3.out.f 3 rfl
              have y4 : w8.frozen? ⟨w.heap.size + 2, 4, none⟩ = false := B3.out.f 4 rfl
              have y5 : w8.frozen? ⟨w.heap.size + 2, 5, none⟩ = false := B3.out.f 5 rfl
              have y6 : w8.frozen? ⟨w.heap.size + 2, 6, none⟩ = false := B3.out.f 6 rfl
              go_wp2_with fail
              refine bodyPost_ret (v := .tuple #[.agg #[.int .i64 r0, .int .i64 r1, .int .i64 r2, .int .i64 0, .int .i64 0, .int .i64 0, .int .i64 0], .bool true, .int .i64 0]) (by simp [results, Try.results9, go_sem, o0, o1, o2, o3, o4, o5, o6]) rfl ⟨rfl, ?_⟩
              exact (Ext.set (Ext.set (Ext.set (Ext.set (Ext.set (Ext.set (Ext.set HX.out lt2.out _) lt2.out _) lt2.out _) lt2.out _) lt2.out _) lt2.out _) lt2.out _)
end Go.Proofs.Ytcbelhalckehcaa
