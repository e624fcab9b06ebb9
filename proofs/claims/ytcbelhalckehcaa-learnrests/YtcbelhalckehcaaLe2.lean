/- learn: Check. -/
import Derived.Test.YtcbelhalckehcaaLe1
namespace Go.Proofs.Ytcbelhalckehcaa
open Go.RowKit Go.Shelf
/-- how far it is -/
def okLn (b0 b1 b2 s0 s1 s2 n : Int) : Bool := opn s0 s1 s2 n && okS3 s0 s1 s2 && ok3 b0 b1 b2
def chkLn (b0 b1 b2 s0 s1 s2 n : Int) : Int := if okLn b0 b1 b2 s0 s1 s2 n then 0 else 1
theorem opn_bounds {s0 s1 s2 n : Int} (h : opn s0 s1 s2 n = true) : 0 ≤ n ∧ n < 32 := by
  unfold opn at h
  split at h
  · omega
  · simp at h; omega
theorem okLn_parts {b0 b1 b2 s0 s1 s2 n : Int} (h : okLn b0 b1 b2 s0 s1 s2 n = true) : opn s0 s1 s2 n = true ∧ ok3 b0 b1 b2 = true ∧ (0 ≤ n ∧ n < 32) ∧ (-2251799813685248 < s0 ∧ s0 < 2251799813685248) ∧ (-2251799813685248 < s1 ∧ s1 < 2251799813685248) ∧ (-2251799813685248 < s2 ∧ s2 < 2251799813685248) := by
  unfold okLn okS3 at h
  simp only [Bool.and_eq_true] at h
  exact ⟨h.1.1, h.2, opn_bounds h.1.1, okS_iff.1 h.1.2.1.1, okS_iff.1 h.1.2.1.2, okS_iff.1 h.1.2.2⟩
set_option maxRecDepth 20000 in
set_option maxHeartbeats 4000000 in
theorem lcheck_any (b0 b1 b2 s0 s1 s2 n : Int) (w : World) : Calls Try.prog 11 #[.agg #[.int .i64 b0, .int .i64 b1, .int .i64 b2, .int .i64 s0, .int .i64 s1, .int .i64 s2, .int .i64 n]] w fun e w' => e = .returned (.int .i64 (chkLn b0 b1 b2 s0 s1 s2 n)) ∧ Ext w w' := by
  have HW : Hid (∀ w, Calls Try.prog 22 #[.agg #[.int .i64 b0, .int .i64 b1, .int .i64 b2, .int .i64 s0, .int .i64 s1, .int .i64 s2, .int .i64 n]] w fun e w' => e = .returned (.agg #[.int .i64 s0, .int .i64 s1, .int .i64 s2, .int .i64 n]) ∧ Ext w w') := windowof_any b0 b1 b2 s0 s1 s2 n
  have HO : Hid (∀ w, Calls Try.prog 25 #[.agg #[.int .i64 s0, .int .i64 s1, .int .i64 s2, .int .i64 n], .int .i64 32] w fun e w' => e = .returned (.bool (opn s0 s1 s2 n)) ∧ Ext w w') := isopen_any s0 s1 s2 n
  have HS : Hid (∀ w, Calls Try.prog 27 #[.agg #[.int .i64 s0, .int .i64 s1, .int .i64 s2]] w fun e w' => e = .returned (.bool (okS3 s0 s1 s2)) ∧ Ext w w') := issum_any s0 s1 s2
  have HC : Hid (∀ w, Calls Try.prog 20 #[.agg #[.int .i64 b0, .int .i64 b1, .int .i64 b2]] w fun e w' => e = .returned (.int .i64 (chk3 b0 b1 b2)) ∧ Ext w w') := vCheck_any b0 b1 b2
  have B1 : Hid (HV (w.alloc (.cells #[.int .i64 b0, .int .i64 b1, .int .i64 b2, .int .i64 s0, .int .i64 s1, .int .i64 s2, .int .i64 n] 26)) w.heap.size [.int .i64 b0, .int .i64 b1, .int .i64 b2, .int .i64 s0, .int .i64 s1, .int .i64 s2, .int .i64 n]) := hv_at rfl
  have HX : Hid (Ext w (w.alloc (.cells #[.int .i64 b0, .int .i64 b1, .int .i64 b2, .int .i64 s0, .int .i64 s1, .int .i64 s2, .int .i64 n] 26))) := (Ext.refl w).alloc _
  have ex : Hid (chkLn b0 b1 b2 s0 s1 s2 n = if opn s0 s1 s2 n && okS3 s0 s1 s2 && ok3 b0 b1 b2 then 0 else 1) := rfl
  have ey : Hid (chk3 b0 b1 b2 = if ok3 b0 b1 b2 then 0 else 1) := rfl
  generalize chkLn b0 b1 b2 s0 s1 s2 n = R at *
  generalize chk3 b0 b1 b2 = K at *
  generalize opn s0 s1 s2 n = p1 at *
  generalize okS3 s0 s1 s2 = p2 at *
  generalize ok3 b0 b1 b2 = p3 at *
  cases p1
  · have er : R = 1 := ex.out
    subst er
    clear ex ey
    go_enter Try.func11, Try.ntmps11
    go_wp2_with fail
    generalize (w.alloc (.cells #[.int .i64 b0, .int .i64 b1, .int .i64 b2, .int .i64 s0, .int .i64 s1, .int .i64 s2, .int .i64 n] 26)) = wa at *
    refine (HW.out _).mono ?_
    rintro e w1 ⟨rfl, x1⟩
    have HX : Hid (Ext w w1) := HX.out.trans x1
    have B1 : Hid (HV w1 w.heap.size [.int .i64 b0, .int .i64 b1, .int .i64 b2, .int .i64 s0, .int .i64 s1, .int .i64 s2, .int .i64 n]) := B1.out.ext x1
    clear x1
    go_wp2_with fail
    refine (HO.out _).mono ?_
    rintro e w2 ⟨rfl, x2⟩
    have HX : Hid (Ext w w2) := HX.out.trans x2
    have B1 : Hid (HV w2 w.heap.size [.int .i64 b0, .int .i64 b1, .int .i64 b2, .int .i64 s0, .int .i64 s1, .int .i64 s2, .int .i64 n]) := B1.out.ext x2
    clear x2
    have c3 : w2.cell? ⟨w.heap.size, 3, none⟩ = some (.int .i64 s0) := B1.out.c 3 rfl
    have c4 : w2.cell? ⟨w.heap.size, 4, none⟩ = some (.int .i64 s1) := B1.out.c 4 rfl
    have c5 : w2.cell? ⟨w.heap.size, 5, none⟩ = some (.int .i64 s2) := B1.out.c 5 rfl
    go_wp2_with fail
    go_ret
    exact ⟨rfl, HX.out⟩
  · cases p2
    · have er : R = 1 := ex.out
      subst er
      clear ex ey
      go_enter Try.func11, Try.ntmps11
      go_wp2_with fail
      generalize (w.alloc (.cells #[.int .i64 b0, .int .i64 b1, .int .i64 b2, .int .i64 s0, .int .i64 s1, .int .i64 s2, .int .i64 n] 26)) = wa at *
      refine (HW.out _).mono ?_
      rintro e w1 ⟨rfl, x1⟩
      have HX : Hid (Ext w w1) := HX.out.trans x1
      have B1 : Hid (HV w1 w.heap.size [.int .i64 b0, .int .i64 b1, .int .i64 b2, .int .i64 s0, .int .i64 s1, .int .i64 s2, .int .i64 n]) := B1.out.ext x1
      clear x1
      go_wp2_with fail
      refine (HO.out _).mono ?_
      rintro e w2 ⟨rfl, x2⟩
      have HX : Hid (Ext w w2) := HX.out.trans x2
      have B1 : Hid (HV w2 w.heap.size [.int .i64 b0, .int .i64 b1, .int .i64 b2, .int .i64 s0, .int .i64 s1, .int .i64 s2, .int .i64 n]) := B1.out.ext x2
      clear x2
      have c3 : w2.cell? ⟨w.heap.size, 3, none⟩ = some (.int .i64 s0) := B1.out.c 3 rfl
      have c4 : w2.cell? ⟨w.heap.size, 4, none⟩ = some (.int .i64 s1) := B1.out.c 4 rfl
      have c5 : w2.cell? ⟨w.heap.size, 5, none⟩ = some (.int .i64 s2) := B1.out.c 5 rfl
      go_wp2_with fail
      refine (HS.out _).mono ?_
      rintro e w3 ⟨rfl, x3⟩
      have HX : Hid (Ext w w3) := HX.out.trans x3
      have B1 : Hid (HV w3 w.heap.size [.int .i64 b0, .int .i64 b1, .int .i64 b2, .int .i64 s0, .int .i64 s1, .int .i64 s2, .int .i64 n]) := B1.out.ext x3
      clear x3 c3 c4 c5
      go_wp2_with fail
      go_ret
      exact ⟨rfl, HX.out⟩
    · have er : R = K := by rw [ex.out, ey.out]; simp
      subst er
      clear ex ey
      go_enter Try.func11, Try.ntmps11
      go_wp2_with fail
      generalize (w.alloc (.cells #[.int .i64 b0, .int .i64 b1, .int .i64 b2, .int .i64 s0, .int .i64 s1, .int .i64 s2, .int .i64 n] 26)) = wa at *
      refine (HW.out _).mono ?_
      rintro e w1 ⟨rfl, x1⟩
      have HX : Hid (Ext w w1) := HX.out.trans x1
      have B1 : Hid (HV w1 w.heap.size [.int .i64 b0, .int .i64 b1, .int .i64 b2, .int .i64 s0, .int .i64 s1, .int .i64 s2, .int .i64 n]) := B1.out.ext x1
      clear x1
      go_wp2_with fail
      refine (HO.out _).mono ?_
      rintro e w2 ⟨rfl, x2⟩
      have HX : Hid (Ext w w2) := HX.out.trans x2
      have B1 : Hid (HV w2 w.heap.size [.int .i64 b0, .int .i64 b1, .int .i64 b2, .int .i64 s0, .int .i64 s1, .int .i64 s2, .int .i64 n]) := B1.out.ext x2
      clear x2
      have c3 : w2.cell? ⟨w.heap.size, 3, none⟩ = some (.int .i64 s0) := B1.out.c 3 rfl
      have c4 : w2.cell? ⟨w.heap.size, 4, none⟩ = some (.int .i64 s1) := B1.out.c 4 rfl
      have c5 : w2.cell? ⟨w.heap.size, 5, none⟩ = some (.int .i64 s2) := B1.out.c 5 rfl
      go_wp2_with fail
      refine (HS.out _).mono ?_
      rintro e w3 ⟨rfl, x3⟩
      have HX : Hid (Ext w w3) := HX.out.trans x3
      have B1 : Hid (HV w3 w.heap.size [.int .i64 b0, .int .i64 b1, .int .i64 b2, .int .i64 s0, .int .i64 s1, .int .i64 s2, .int .i64 n]) := B1.out.ext x3
      clear x3 c3 c4 c5
      obtain ⟨c0, c1, c2⟩ : w3.cell? ⟨w.heap.size, 0, none⟩ = some (.int .i64 b0) ∧ w3.cell? ⟨w.heap.size, 1, none⟩ = some (.int .i64 b1) ∧ w3.cell? ⟨w.heap.size, 2, none⟩ = some (.int .i64 b2) := ⟨B1.out.c 0 rfl, B1.out.c 1 rfl, B1.out.c 2 rfl⟩
      go_wp2_with fail
      refine (HC.out _).mono ?_
      rintro e w4 ⟨rfl, x4⟩
      have HX : Hid (Ext w w4) := HX.out.trans x4
      go_wp2_with fail
      go_ret
      exact ⟨rfl, HX.out⟩
end Go.Proofs.Ytcbelhalckehcaa
