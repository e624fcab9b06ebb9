/- gimbalref10: left. -/
import Derived.Test.YtnilhamcojjloaaCaM
import Derived.Test.YtnilhamcojjloaaRef1
namespace Go.Proofs.Ytnilhamcojjloaa
open Go.RowKit Go.Shelf
theorem fit_of' (k : Nat) (B z : Int) (hB : B = 2 ^ k) (h1 : -B < z) (h2 : z < B) : Fit k z := by subst hB; exact fit_of k z h1 h2
set_option maxHeartbeats 4000000 in
theorem rleft_raw (x b h d X P L R : Int) (w : World) (hX : wrap64 (1024 * x) = X)
    (H1 : Hid (∀ w', Calls Try.prog 22 #[.int .i64 X] w' fun e w'' => (∃ r, e = .returned r ∧ IsI w'' r (X)) ∧ Ext w' w''))
    (H2 : Hid (∀ w', Calls Try.prog 22 #[.int .i64 b] w' fun e w'' => (∃ r, e = .returned r ∧ IsI w'' r (b)) ∧ Ext w' w''))
    (H3 : Hid (∀ w', Calls Try.prog 22 #[.int .i64 h] w' fun e w'' => (∃ r, e = .returned r ∧ IsI w'' r (h)) ∧ Ext w' w''))
    (H4 : Hid (∀ w', Calls Try.prog 22 #[.int .i64 d] w' fun e w'' => (∃ r, e = .returned r ∧ IsI w'' r (d)) ∧ Ext w' w''))
    (K1 : Hid (∀ r1 r2 w', IsI w' r1 X → IsI w' r2 b → Calls Try.prog 34 #[r1, r2] w' fun e w'' => (∃ r, e = .returned r ∧ IsI w'' r (L)) ∧ Ext w' w''))
    (K2 : Hid (∀ r1 r2 w', IsI w' r1 h → IsI w' r2 d → Calls Try.prog 24 #[r1, r2] w' fun e w'' => (∃ r, e = .returned r ∧ IsI w'' r (P)) ∧ Ext w' w''))
    (K3 : Hid (∀ r1 r2 w', IsI w' r1 L → IsI w' r2 P → Calls Try.prog 34 #[r1, r2] w' fun e w'' => (∃ r, e = .returned r ∧ IsI w'' r (R)) ∧ Ext w' w'')) :
    Calls Try.prog 21 #[.int .i64 x, .int .i64 b, .int .i64 h, .int .i64 d] w fun e w' => (∃ r, e = .returned r ∧ IsI w' r R) ∧ Ext w w' := by
  have XS : Hid (Ext w (w.alloc (.cells #[.bool false, .slice none 0 0] 52))) := (Ext.refl _).alloc _
  have BS : Hid (HV (w.alloc (.cells #[.bool false, .slice none 0 0] 52)) w.heap.size [.bool false, .slice none 0 0]) := hv_at rfl
  go_enter Try.func21, Try.ntmps21
  go_wp2_with fail
  generalize w.alloc (.cells #[.bool false, .slice none 0 0] 52) = W at *
  refine (H1.out _).mono ?_
  rintro e w1 ⟨⟨r1, rfl, hr1⟩, x1⟩
  go_wp2_with fail
  refine (H2.out _).mono ?_
  rintro e w2 ⟨⟨r2, rfl, hr2⟩, x2⟩
  go_wp2_with fail
  refine (K1.out _ _ _ (hr1.ext x2) hr2).mono ?_
  rintro e w3 ⟨⟨r3, rfl, hr3⟩, x3⟩
  go_wp2_with fail
  refine (H3.out _).mono ?_
  rintro e w4 ⟨⟨r4, rfl, hr4⟩, x4⟩
  go_wp2_with fail
  refine (H4.out _).mono ?_
  rintro e w5 ⟨⟨r5, rfl, hr5⟩, x5⟩
  go_wp2_with fail
  refine (K2.out _ _ _ (hr4.ext x5) hr5).mono ?_
  rintro e w6 ⟨⟨r6, rfl, hr6⟩, x6⟩
  go_wp2_with fail
  refine (K3.out _ _ _ (hr3.ext ((x4.trans x5).trans x6)) hr6).mono ?_
  rintro e w7 ⟨⟨r7, rfl, hr7⟩, x7⟩
  have XA : Hid (Ext W w7) := ((((((x1.trans x2).trans x3).trans x4).trans x5).trans x6).trans x7)
  have V := BS.out.ext XA.out
  have t0 : w7.cell? ⟨w.heap.size, 0, none⟩ = some (.bool false) := V.c 0 rfl
  have t1 : w7.cell? ⟨w.heap.size, 1, none⟩ = some (.slice none 0 0) := V.c 1 rfl
  have t2 : w7.frozen? ⟨w.heap.size, 0, none⟩ = false := V.f 0 rfl
  have t3 : w7.frozen? ⟨w.heap.size, 1, none⟩ = false := V.f 1 rfl
  obtain ⟨u, hu, hk⟩ := hr7
  obtain ⟨au, lu, cu, hau⟩ := hk.isSlice
  subst hau
  subst hu
  have X3 : Hid (Ext w w7) := XS.out.trans XA.out
  have HI : Hid (IsI w7 (.agg #[.bool (decide (R < 0)), .slice au lu cu]) R) := ⟨_, rfl, hk⟩
  clear hk x1 x2 x3 x4 x5 x6 x7 hr1 hr2 hr3 hr4 hr5 hr6 V
  go_wp2_with fail
  exact bodyPost_ret (v := .agg #[.bool (decide (R < 0)), .slice au lu cu]) (by simp [results, Try.results21, go_sem, t0, t1]) rfl ⟨⟨_, rfl, HI.out.set2 t0 t1⟩, (X3.out.setCell (Nat.le_refl _) _).setCell (Nat.le_refl _) _⟩
theorem rleft_any (x b h d : Int) (w : World) (hx : -32768 ≤ x ∧ x ≤ 32767) (hb : okW b = true) (hh : okW h = true) (hd : -255 ≤ d ∧ d ≤ 255) :
    Calls Try.prog 21 #[.int .i64 x, .int .i64 b, .int .i64 h, .int .i64 d] w fun e w' => (∃ r, e = .returned r ∧ IsI w' r (clr x b h d)) ∧ Ext w w' := by
  have b1 := okW_bounds hb
  have b2 := okW_bounds hh
  obtain ⟨p, q⟩ := clr_bound hx hb hh hd
  have fX : Fit 64 (1024 * x) := fit_of' 64 18446744073709551616 _ (by decide) (by omega) (by omega)
  have fb : Fit 64 b := fit_of' 64 18446744073709551616 _ (by decide) (by omega) (by omega)
  have fh : Fit 64 h := fit_of' 64 18446744073709551616 _ (by decide) (by omega) (by omega)
  have fd : Fit 64 d := fit_of' 64 18446744073709551616 _ (by decide) (by omega) (by omega)
  have fP : Fit 64 (h * d) := fit_of' 64 18446744073709551616 _ (by decide) (by omega) (by omega)
  have fL : Fit 64 (1024 * x - b) := fit_of' 64 18446744073709551616 _ (by decide) (by omega) (by omega)
  have fR : Fit 64 (1024 * x - b - h * d) := fit_of' 64 18446744073709551616 _ (by decide) (by omega) (by omega)
  refine rleft_raw x b h d (1024 * x) (h * d) (1024 * x - b) (1024 * x - b - h * d) w (by unfold wrap64; omega) (fun w' => from_any _ w' (by omega) (by omega)) (fun w' => from_any _ w' (by omega) (by omega)) (fun w' => from_any _ w' (by omega) (by omega)) (fun w' => from_any _ w' (by omega) (by omega)) ?_ ?_ ?_
  · exact fun r1 r2 w' h1 h2 => less_isI _ _ r1 r2 w' h1 h2 (fX.small (by omega)) (fb.small (by omega)) (fL.small (by omega))
  · exact fun r1 r2 w' h1 h2 => times_isI _ _ r1 r2 w' h1 h2 (fh.small (by omega)) (fd.small (by omega)) (fP.small (by omega))
  · exact fun r1 r2 w' h1 h2 => less_isI _ _ r1 r2 w' h1 h2 (fL.small (by omega)) (fP.small (by omega)) (fR.small (by omega))
end Go.Proofs.Ytnilhamcojjloaa
