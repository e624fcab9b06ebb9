/- TapSteady. -/
import Derived.Test.YtojcndgoihkfnaaTp3
namespace Go.Proofs.Ytojcndgoihkfnaa
open Go.RowKit Go.Shelf
theorem tdiv_in (x : Int) (k : Int) (hk : 0 < k) : (0 ≤ x → 0 ≤ x.tdiv k ∧ k * x.tdiv k ≤ x ∧ x < k * x.tdiv k + k) ∧ (x ≤ 0 → x.tdiv k ≤ 0 ∧ x ≤ k * x.tdiv k ∧ k * x.tdiv k - k < x) := by
  have key : ∀ y : Int, 0 ≤ y → 0 ≤ y.tdiv k ∧ k * y.tdiv k ≤ y ∧ y < k * y.tdiv k + k := fun y hy => by
    rw [Int.tdiv_eq_ediv_of_nonneg hy]
    have h1 := Int.mul_ediv_add_emod y k
    have h2 := Int.emod_nonneg y (show k ≠ 0 by omega)
    have h3 := Int.emod_lt_of_pos y hk
    exact ⟨Int.ediv_nonneg hy (by omega), by omega, by omega⟩
  refine ⟨key x, fun hx => ?_⟩
  have h := key (-x) (by omega)
  rw [Int.neg_tdiv, Int.mul_neg] at h
  omega
/-- between rounds -/
def SI (x y z N : Int) (k : Nat) : Prop := (-4903325 ≤ x ∧ x ≤ 4903325) ∧ y = 0 ∧ (-2451662 ≤ z ∧ z ≤ 2451662) ∧ 0 ≤ N ∧ N ≤ 89 * k ∧ k ≤ 80
/-- a half or a quarter of a number -/
def Hf (k m x q : Int) : Prop := q = x.tdiv k ∧ -m ≤ q ∧ q ≤ m
theorem hf_of {k m x : Int} (hk : 0 < k) (h : -(k * m + k - 1) ≤ x ∧ x ≤ k * m + k - 1) : Hf k m x (x.tdiv k) := by
  obtain ⟨h1, h2⟩ := tdiv_in x k hk
  have mm := fun (u : Int) (hu : m < u) => Int.mul_le_mul_of_nonneg_left (show m + 1 ≤ u by omega) (show 0 ≤ k by omega)
  rw [Int.mul_add, Int.mul_one] at mm
  have e : k * (-(x.tdiv k)) = -(k * x.tdiv k) := Int.mul_neg _ _
  refine ⟨rfl, ?_, ?_⟩
  · by_cases hx : 0 ≤ x
    · have := h1 hx
      by_cases hm : 0 ≤ m
      · omega
      · have := mm 0 (by omega); omega
    · have := h2 (by omega)
      by_cases hm : m < -(x.tdiv k)
      · have := mm _ hm; omega
      · omega
  · by_cases hx : 0 ≤ x
    · have := h1 hx
      by_cases hm : m < x.tdiv k
      · have := mm _ hm; omega
      · omega
    · have := h2 (by omega)
      by_cases hm : 0 ≤ m
      · omega
      · have := mm 0 (by omega); omega
theorem steady_take {on : Bool} {x z X Z M : Int} (ho : on = false → x = 0 ∧ z = 0) (hx : -4903325 ≤ x ∧ x ≤ 4903325) (hz : -2451662 ≤ z ∧ z ≤ 2451662) (hX : -4903325 ≤ X ∧ X ≤ 4903325) (hZ : -2451662 ≤ Z ∧ Z ≤ 2451662) (dX : -4903325 ≤ X - x ∧ X - x ≤ 4903325) (dZ : -2451663 ≤ Z - z ∧ Z - z ≤ 2451663) (hM : 0 ≤ M ∧ M ≤ 10000) (w : World) : Calls Try.prog 8 #[.agg #[.bool on, .int .i64 x, .int .i64 0, .int .i64 z, .int .i64 0, .int .i64 0], .agg #[.int .i64 X, .int .i64 0, .int .i64 Z], .int .i64 M] w fun e w' => e = .returned (.tuple #[.agg #[.bool true, .int .i64 X, .int .i64 0, .int .i64 Z, .int .i64 0, .int .i64 0], .int .i64 0, .int .i64 0]) ∧ Ext w w' := by
  have g2 : ok3 X 0 Z = true := ok3_of ⟨by omega, by omega⟩ ⟨by omega, by omega⟩ ⟨by omega, by omega⟩
  have g3 : okTm M = true := okTm_iff.2 ⟨by omega, by omega⟩
  cases on
  · obtain ⟨rfl, rfl⟩ := ho rfl
    exact take_off X 0 Z M w g2 g3
  · have g0 : ok3 x 0 z = true := ok3_of ⟨by omega, by omega⟩ ⟨by omega, by omega⟩ ⟨by omega, by omega⟩
    obtain ⟨k, hk⟩ := rootQ_exists (sq3 (X - x) (0 - 0) (Z - z)) 1 (by decide)
    have hf := far_most (A := 4903325) (B := 0) (C := 2451663) (N := 9806650) hk (by omega) (by decide) (by omega) (by decide)
    have h := take_told x 0 z 0 0 X 0 Z M k w (okTp_of g0 ⟨by omega, by omega⟩ ⟨by omega, by omega⟩) g2 g3 (by omega) (by omega) (ok3_of ⟨by omega, by omega⟩ ⟨by omega, by omega⟩ ⟨by omega, by omega⟩) hk (okW_of (by omega) (by omega))
    have e : phs 0 0 k (M + 1) = 0 := by unfold phs; rw [if_neg (by omega), if_pos rfl]
    rw [e] at h
    exact h
set_option maxRecDepth 20000 in
set_option maxHeartbeats 40000000 in
theorem tapsteady_any (b off len cap : Nat) (C : Nat → Nat → Value) (w : World) (hl : len ≤ maxLen) (hc : ML 10 (fun j => j == 0) w b off len C) :
    Calls Try.prog 3 #[.slice (some ⟨b, off, none⟩) len cap] w fun e w' => e = .returned (.bool true) ∧ Ext w w' := by
  have hl' : len ≤ 9223372036854775807 := by unfold maxLen at hl; omega
  clear hl
  have S0 : Hid (SI 0 0 0 0 0) := by show SI _ _ _ _ _; unfold SI; omega
  have Ft : Hid (HV ((w.alloc (.cells #[.bool false, .int .i64 0, .int .i64 0, .int .i64 0, .int .i64 0, .int .i64 0] 26)).alloc (.cells #[.int .i64 0, .int .i64 0, .int .i64 0] 24)) w.heap.size [.bool false, .int .i64 0, .int .i64 0, .int .i64 0, .int .i64 0, .int .i64 0]) := (hv_at rfl).alloc _
  have Fv : Hid (HV ((w.alloc (.cells #[.bool false, .int .i64 0, .int .i64 0, .int .i64 0, .int .i64 0, .int .i64 0] 26)).alloc (.cells #[.int .i64 0, .int .i64 0, .int .i64 0] 24)) (w.heap.size + 1) [.int .i64 0, .int .i64 0, .int .i64 0]) := hv_at (by simp)
  have FX : Hid (Ext w ((w.alloc (.cells #[.bool false, .int .i64 0, .int .i64 0, .int .i64 0, .int .i64 0, .int .i64 0] 26)).alloc (.cells #[.int .i64 0, .int .i64 0, .int .i64 0] 24))) := ((Ext.refl _).alloc _).alloc _
  have Lt : Hid (w.heap.size ≤ w.heap.size) := Nat.le_refl _
  have Lv : Hid (w.heap.size ≤ w.heap.size + 1) := Nat.le_add_right _ _
  have lttv : w.heap.size < w.heap.size + 1 := by omega
  go_enter Try.func3, Try.ntmps3
  go_upto_region 3 with fail
  generalize ((w.alloc (.cells #[.bool false, .int .i64 0, .int .i64 0, .int .i64 0, .int .i64 0, .int .i64 0] 26)).alloc (.cells #[.int .i64 0, .int .i64 0, .int .i64 0] 24)) = wa at *
  generalize w.heap.size + 1 = nv at *
  go_wp2_with fail
  go_loopw [5, 6] (fun vN vi wr => ∃ (k : Nat) (on : Bool) (x y z N : Int), k ≤ len ∧ vi = .int .i64 k ∧ vN = .int .i64 N ∧ Hid (on = false → k = 0 ∧ x = 0 ∧ y = 0 ∧ z = 0) ∧ Hid (SI x y z N k) ∧ Hid (HV wr w.heap.size [.bool on, .int .i64 x, .int .i64 y, .int .i64 z, .int .i64 0, .int .i64 0]) ∧ Hid (HV wr nv [.int .i64 x, .int .i64 y, .int .i64 z]) ∧ Hid (Ext w wr)) (fun _ i _ => len - (intOf i).toNat)
  case atStart => exact ⟨0, false, 0, 0, 0, 0, Nat.zero_le _, rfl, rfl, fun _ => ⟨rfl, rfl, rfl, rfl⟩, S0, Ft, Fv, FX⟩
  case round =>
    clear S0 Ft Fv FX
    obtain ⟨k, on, x, y, z, N, hk, rfl, rfl, HO, HS, Ft, Fv, FX⟩ := hrel
    by_cases hlt : k < len
    · by_cases h5 : k < 80
      · skip
        obtain ⟨za, h6, _⟩ := hc.num hlt (j := 6) (by omega) rfl
        obtain ⟨zb, h7, _⟩ := hc.num hlt (j := 7) (by omega) rfl
        obtain ⟨zc, h8, _⟩ := hc.num hlt (j := 8) (by omega) rfl
        obtain ⟨zn, h9, _⟩ := hc.num hlt (j := 9) (by omega) rfl
        have c6 := FX.out.keepc h6
        have c7 := FX.out.keepc h7
        have c8 := FX.out.keepc h8
        have hlt' : (k : Int) < (len : Int) := by omega
        clear hc
        have HV0 : Hid (∀ w, Calls Try.prog 6 #[.agg #[.int .i64 za, .int .i64 zb, .int .i64 zc], .int .i64 4903325] w fun e w' => e = .returned (.agg #[.int .i64 ((brt 4903325 za)), .int .i64 ((brt 4903325 zb)), .int .i64 ((brt 4903325 zc))]) ∧ Ext w w') := fun w => brvec_4903325 za zb zc w
        have Ba := brt_bounds 4903325 za (by omega)
        generalize brt 4903325 za = a at *
        have Bb := brt_bounds 4903325 zb (by omega)
        generalize brt 4903325 zb = b at *
        have Bc := brt_bounds 4903325 zc (by omega)
        generalize brt 4903325 zc = c at *
        have HN : Hid (∀ w, Calls Try.prog 7 #[.int .i64 zn, .int .i64 90] w fun e w' => e = .returned (.int .i64 (zn % 18446744073709551616 % 90)) ∧ w' = w) := within_90 zn
        have Bq : 0 ≤ zn % 18446744073709551616 % 90 ∧ zn % 18446744073709551616 % 90 ≤ 89 := ⟨by omega, by omega⟩
        generalize zn % 18446744073709551616 % 90 = q at *
        obtain ⟨x0, y0, z0, n0, n1, k8⟩ := HS.out
        subst y0
        obtain ⟨hx, hxe, x1, x2⟩ : ∃ h, h = x.tdiv 2 ∧ _ ∧ _ := ⟨_, hf_of (k := 2) (m := 2451662) (x := x) (by omega) (by omega)⟩
        obtain ⟨ha, hae, a1, a2⟩ : ∃ h, h = a.tdiv 2 ∧ _ ∧ _ := ⟨_, hf_of (k := 2) (m := 2451662) (x := a) (by omega) (by omega)⟩
        obtain ⟨hz, hze, z1, z2⟩ : ∃ h, h = z.tdiv 2 ∧ _ ∧ _ := ⟨_, hf_of (k := 2) (m := 1225831) (x := z) (by omega) (by omega)⟩
        obtain ⟨hd, hde, d1, d2⟩ : ∃ h, h = c.tdiv 4 ∧ _ ∧ _ := ⟨_, hf_of (k := 4) (m := 1225831) (x := c) (by omega) (by omega)⟩
        have tx := tdiv_in x 2 (by omega)
        have tz := tdiv_in z 2 (by omega)
        rw [← hxe] at tx
        rw [← hze] at tz
        obtain ⟨X, ex, eX⟩ : ∃ X, wrap64 (wrap64 hx + wrap64 ha) = X ∧ X = hx + ha := ⟨_, by rw [neg_wrap64 (a := hx) (by omega) (by omega), neg_wrap64 (a := ha) (by omega) (by omega)]; exact neg_wrap64 (by omega) (by omega), rfl⟩
        obtain ⟨Z, ez, eZ⟩ : ∃ Z, wrap64 (wrap64 hz + wrap64 hd) = Z ∧ Z = hz + hd := ⟨_, by rw [neg_wrap64 (a := hz) (by omega) (by omega), neg_wrap64 (a := hd) (by omega) (by omega)]; exact neg_wrap64 (by omega) (by omega), rfl⟩
        have eq : wrap64 (N + q) = N + q := neg_wrap64 (by omega) (by omega)
        have HT := steady_take (on := on) (x := x) (z := z) (X := X) (Z := Z) (M := N + q) (fun h => ⟨(HO.out h).2.1, (HO.out h).2.2.2⟩) x0 z0 (by omega) (by omega) (by omega) (by omega) (by omega)
        have HS : Hid (SI X 0 Z (N + q) (k + 1)) := by show SI _ _ _ _ _; unfold SI; omega
        have T1 : x.tdiv 2 = hx := hxe.symm
        have T2 : a.tdiv 2 = ha := hae.symm
        have T3 : z.tdiv 2 = hz := hze.symm
        have T4 : c.tdiv 4 = hd := hde.symm
        clear Ba Bb Bc Bq x0 z0 n0 n1 k8 x1 x2 a1 a2 z1 z2 d1 d2 tx tz hxe hae hze hde HO eX eZ
        skip
        go_upto_region 8 with (first | (go_at_call 6; refine (HV0 _).mono ?_; rintro e w1 ⟨rfl, x1⟩))
        have Ft : Hid (HV w1 w.heap.size [.bool on, .int .i64 x, .int .i64 0, .int .i64 z, .int .i64 0, .int .i64 0]) := Ft.out.ext x1
        have Fv : Hid (HV w1 nv [.int .i64 x, .int .i64 0, .int .i64 z]) := Fv.out.ext x1
        have FX : Hid (Ext w w1) := FX.out.trans x1
        clear x1 HV0 c6 c7 c8
        have lttd : w.heap.size < w1.heap.size := Ft.out.1
        have ltvd : nv < w1.heap.size := Fv.out.1
        have Ld : Hid (w.heap.size ≤ w1.heap.size) := FX.out.size
        have Ft : Hid (HV (w1.alloc (.cells #[.int .i64 a, .int .i64 b, .int .i64 c] 24)) w.heap.size [.bool on, .int .i64 x, .int .i64 0, .int .i64 z, .int .i64 0, .int .i64 0]) := Ft.out.alloc _
        have Fv : Hid (HV (w1.alloc (.cells #[.int .i64 a, .int .i64 b, .int .i64 c] 24)) nv [.int .i64 x, .int .i64 0, .int .i64 z]) := Fv.out.alloc _
        have Fd : Hid (HV (w1.alloc (.cells #[.int .i64 a, .int .i64 b, .int .i64 c] 24)) w1.heap.size [.int .i64 a, .int .i64 b, .int .i64 c]) := hv_at rfl
        have FX : Hid (Ext w (w1.alloc (.cells #[.int .i64 a, .int .i64 b, .int .i64 c] 24))) := FX.out.alloc _
        generalize (w1.alloc (.cells #[.int .i64 a, .int .i64 b, .int .i64 c] 24)) = wx1 at *
        generalize w1.heap.size = nd at *
        have qv0 : wx1.cell? ⟨nv, 0, none⟩ = some (.int .i64 x) := Fv.out.c 0 rfl
        have qv1 : wx1.cell? ⟨nv, 1, none⟩ = some (.int .i64 0) := Fv.out.c 1 rfl
        have qv2 : wx1.cell? ⟨nv, 2, none⟩ = some (.int .i64 z) := Fv.out.c 2 rfl
        have qd0 : wx1.cell? ⟨nd, 0, none⟩ = some (.int .i64 a) := Fd.out.c 0 rfl
        have qd2 : wx1.cell? ⟨nd, 2, none⟩ = some (.int .i64 c) := Fd.out.c 2 rfl
        have fv0 : wx1.frozen? ⟨nv, 0, none⟩ = false := Fv.out.f 0 rfl
        have fv1 : wx1.frozen? ⟨nv, 1, none⟩ = false := Fv.out.f 1 rfl
        have fv2 : wx1.frozen? ⟨nv, 2, none⟩ = false := Fv.out.f 2 rfl
        go_upto_region 9 with fail
        clear qv0 qv1 qv2 qd0 qd2 fv0 fv1 fv2 T1 T2 T3 T4 ex ez
        have Ft : Hid (HV (((wx1.setCell ⟨nv, 0, none⟩ (.int .i64 X)).setCell ⟨nv, 1, none⟩ (.int .i64 0)).setCell ⟨nv, 2, none⟩ (.int .i64 Z)) w.heap.size [.bool on, .int .i64 x, .int .i64 0, .int .i64 z, .int .i64 0, .int .i64 0]) := (((Ft.out.far (by omega)).far (by omega)).far (by omega))
        have Fd : Hid (HV (((wx1.setCell ⟨nv, 0, none⟩ (.int .i64 X)).setCell ⟨nv, 1, none⟩ (.int .i64 0)).setCell ⟨nv, 2, none⟩ (.int .i64 Z)) nd [.int .i64 a, .int .i64 b, .int .i64 c]) := (((Fd.out.far (by omega)).far (by omega)).far (by omega))
        have Fv : Hid (HV (((wx1.setCell ⟨nv, 0, none⟩ (.int .i64 X)).setCell ⟨nv, 1, none⟩ (.int .i64 0)).setCell ⟨nv, 2, none⟩ (.int .i64 Z)) nv [.int .i64 X, .int .i64 0, .int .i64 Z]) := (((Fv.out.set 0 (.int .i64 X)).set 1 (.int .i64 0)).set 2 (.int .i64 Z))
        have FX : Hid (Ext w (((wx1.setCell ⟨nv, 0, none⟩ (.int .i64 X)).setCell ⟨nv, 1, none⟩ (.int .i64 0)).setCell ⟨nv, 2, none⟩ (.int .i64 Z))) := (((FX.out.set (p := ⟨nv, 0, none⟩) Lv.out (.int .i64 X)).set (p := ⟨nv, 1, none⟩) Lv.out (.int .i64 0)).set (p := ⟨nv, 2, none⟩) Lv.out (.int .i64 Z))
        generalize (((wx1.setCell ⟨nv, 0, none⟩ (.int .i64 X)).setCell ⟨nv, 1, none⟩ (.int .i64 0)).setCell ⟨nv, 2, none⟩ (.int .i64 Z)) = wx2 at *
        have c9 := FX.out.keepc h9
        go_upto_region 10 with (first | (go_at_call 7; refine (HN _).mono ?_; rintro e wx ⟨rfl, hwx⟩; have hwy := hwx.symm; clear hwx; subst hwy))
        try rw [eq]
        clear c9 HN eq
        generalize N + q = M at *
        have qt0 : wx2.cell? ⟨w.heap.size, 0, none⟩ = some (.bool on) := Ft.out.c 0 rfl
        have qt1 : wx2.cell? ⟨w.heap.size, 1, none⟩ = some (.int .i64 x) := Ft.out.c 1 rfl
        have qt2 : wx2.cell? ⟨w.heap.size, 2, none⟩ = some (.int .i64 0) := Ft.out.c 2 rfl
        have qt3 : wx2.cell? ⟨w.heap.size, 3, none⟩ = some (.int .i64 z) := Ft.out.c 3 rfl
        have qt4 : wx2.cell? ⟨w.heap.size, 4, none⟩ = some (.int .i64 0) := Ft.out.c 4 rfl
        have qt5 : wx2.cell? ⟨w.heap.size, 5, none⟩ = some (.int .i64 0) := Ft.out.c 5 rfl
        have qv0 : wx2.cell? ⟨nv, 0, none⟩ = some (.int .i64 X) := Fv.out.c 0 rfl
        have qv1 : wx2.cell? ⟨nv, 1, none⟩ = some (.int .i64 0) := Fv.out.c 1 rfl
        have qv2 : wx2.cell? ⟨nv, 2, none⟩ = some (.int .i64 Z) := Fv.out.c 2 rfl
        go_upto_region 11 with (first | (go_at_call 8; refine (HT _).mono ?_; rintro e w2 ⟨rfl, x2⟩))
        have Ft : Hid (HV w2 w.heap.size [.bool on, .int .i64 x, .int .i64 0, .int .i64 z, .int .i64 0, .int .i64 0]) := Ft.out.ext x2
        have Fv : Hid (HV w2 nv [.int .i64 X, .int .i64 0, .int .i64 Z]) := Fv.out.ext x2
        have Fd : Hid (HV w2 nd [.int .i64 a, .int .i64 b, .int .i64 c]) := Fd.out.ext x2
        have FX : Hid (Ext w w2) := FX.out.trans x2
        clear qt0 qt1 qt2 qt3 qt4 qt5 qv0 qv1 qv2 x2 HT
        have lttu : w.heap.size < w2.heap.size := Ft.out.1
        have ltvu : nv < w2.heap.size := Fv.out.1
        have ltdu : nd < w2.heap.size := Fd.out.1
        have Lu : Hid (w.heap.size ≤ w2.heap.size) := FX.out.size
        have Ft : Hid (HV (w2.alloc (.cells #[.bool true, .int .i64 X, .int .i64 0, .int .i64 Z, .int .i64 0, .int .i64 0] 26)) w.heap.size [.bool on, .int .i64 x, .int .i64 0, .int .i64 z, .int .i64 0, .int .i64 0]) := Ft.out.alloc _
        have Fv : Hid (HV (w2.alloc (.cells #[.bool true, .int .i64 X, .int .i64 0, .int .i64 Z, .int .i64 0, .int .i64 0] 26)) nv [.int .i64 X, .int .i64 0, .int .i64 Z]) := Fv.out.alloc _
        have Fd : Hid (HV (w2.alloc (.cells #[.bool true, .int .i64 X, .int .i64 0, .int .i64 Z, .int .i64 0, .int .i64 0] 26)) nd [.int .i64 a, .int .i64 b, .int .i64 c]) := Fd.out.alloc _
        have Fu : Hid (HV (w2.alloc (.cells #[.bool true, .int .i64 X, .int .i64 0, .int .i64 Z, .int .i64 0, .int .i64 0] 26)) w2.heap.size [.bool true, .int .i64 X, .int .i64 0, .int .i64 Z, .int .i64 0, .int .i64 0]) := hv_at rfl
        have FX : Hid (Ext w (w2.alloc (.cells #[.bool true, .int .i64 X, .int .i64 0, .int .i64 Z, .int .i64 0, .int .i64 0] 26))) := FX.out.alloc _
        generalize (w2.alloc (.cells #[.bool true, .int .i64 X, .int .i64 0, .int .i64 Z, .int .i64 0, .int .i64 0] 26)) = wx3 at *
        generalize w2.heap.size = nu at *
        have qu0 : wx3.cell? ⟨nu, 0, none⟩ = some (.bool true) := Fu.out.c 0 rfl
        have qu1 : wx3.cell? ⟨nu, 1, none⟩ = some (.int .i64 X) := Fu.out.c 1 rfl
        have qu2 : wx3.cell? ⟨nu, 2, none⟩ = some (.int .i64 0) := Fu.out.c 2 rfl
        have qu3 : wx3.cell? ⟨nu, 3, none⟩ = some (.int .i64 Z) := Fu.out.c 3 rfl
        have qu4 : wx3.cell? ⟨nu, 4, none⟩ = some (.int .i64 0) := Fu.out.c 4 rfl
        have qu5 : wx3.cell? ⟨nu, 5, none⟩ = some (.int .i64 0) := Fu.out.c 5 rfl
        go_upto_region 13 with (first | (go_at_call 9; refine (num18_any _ _).mono ?_; rintro e wx ⟨rfl, hwx⟩; have hwy := hwx.symm; clear hwx; subst hwy))
        have y0 : wx3.cell? ⟨w.heap.size, 0, none⟩ = some (.bool on) := Ft.out.c 0 rfl
        have g0 : wx3.frozen? ⟨w.heap.size, 0, none⟩ = false := Ft.out.f 0 rfl
        have y1 : wx3.cell? ⟨w.heap.size, 1, none⟩ = some (.int .i64 x) := Ft.out.c 1 rfl
        have g1 : wx3.frozen? ⟨w.heap.size, 1, none⟩ = false := Ft.out.f 1 rfl
        have y2 : wx3.cell? ⟨w.heap.size, 2, none⟩ = some (.int .i64 0) := Ft.out.c 2 rfl
        have g2 : wx3.frozen? ⟨w.heap.size, 2, none⟩ = false := Ft.out.f 2 rfl
        have y3 : wx3.cell? ⟨w.heap.size, 3, none⟩ = some (.int .i64 z) := Ft.out.c 3 rfl
        have g3 : wx3.frozen? ⟨w.heap.size, 3, none⟩ = false := Ft.out.f 3 rfl
        have y4 : wx3.cell? ⟨w.heap.size, 4, none⟩ = some (.int .i64 0) := Ft.out.c 4 rfl
        have g4 : wx3.frozen? ⟨w.heap.size, 4, none⟩ = false := Ft.out.f 4 rfl
        have y5 : wx3.cell? ⟨w.heap.size, 5, none⟩ = some (.int .i64 0) := Ft.out.c 5 rfl
        have g5 : wx3.frozen? ⟨w.heap.size, 5, none⟩ = false := Ft.out.f 5 rfl
        go_wp2_with fail
        go_roundw
        case rel => exact ⟨k + 1, true, X, 0, Z, M, by omega, by go_num, rfl, (fun h => by cases h), HS, ((((((Ft.out.set 0 (.bool true)).set 1 (.int .i64 X)).set 2 (.int .i64 0)).set 3 (.int .i64 Z)).set 4 (.int .i64 0)).set 5 (.int .i64 0)), ((((((Fv.out.far (by omega)).far (by omega)).far (by omega)).far (by omega)).far (by omega)).far (by omega)), ((((((FX.out.set (p := ⟨w.heap.size, 0, none⟩) Lt.out _).set (p := ⟨w.heap.size, 1, none⟩) Lt.out _).set (p := ⟨w.heap.size, 2, none⟩) Lt.out _).set (p := ⟨w.heap.size, 3, none⟩) Lt.out _).set (p := ⟨w.heap.size, 4, none⟩) Lt.out _).set (p := ⟨w.heap.size, 5, none⟩) Lt.out _)⟩
        case measure => simp [intOf]; omega
      · go_wp2_with fail
        refine (wakes18_any _).mono ?_
        rintro e w1 ⟨rfl, x1⟩
        have E1 : Ext w w1 := FX.out.trans x1
        go_wp2_with fail
        go_ret
        exact ⟨rfl, E1⟩
    · have hk' : k = len := by omega
      subst hk'
      go_wp2_with fail
      refine (wakes18_any _).mono ?_
      rintro e w1 ⟨rfl, x1⟩
      have E1 : Ext w w1 := FX.out.trans x1
      go_wp2_with fail
      go_ret
      exact ⟨rfl, E1⟩
set_option maxRecDepth 20000 in
set_option maxHeartbeats 4000000 in
theorem tapsteady_none (a : Option Addr) (cap : Nat) (w : World) :
    Calls Try.prog 3 #[.slice a 0 cap] w fun e w' => e = .returned (.bool true) ∧ Ext w w' := by
  have FX : Hid (Ext w ((w.alloc (.cells #[.bool false, .int .i64 0, .int .i64 0, .int .i64 0, .int .i64 0, .int .i64 0] 26)).alloc (.cells #[.int .i64 0, .int .i64 0, .int .i64 0] 24))) := ((Ext.refl _).alloc _).alloc _
  go_enter Try.func3, Try.ntmps3
  go_upto_region 3 with fail
  generalize ((w.alloc (.cells #[.bool false, .int .i64 0, .int .i64 0, .int .i64 0, .int .i64 0, .int .i64 0] 26)).alloc (.cells #[.int .i64 0, .int .i64 0, .int .i64 0] 24)) = wa at *
  go_wp2_with fail
  go_loopw [5, 6] (fun _ i wr => i = .int .i64 0 ∧ Hid (Ext w wr)) (fun _ _ _ => 0)
  case atStart => exact ⟨rfl, FX⟩
  case round =>
    clear FX
    obtain ⟨rfl, FX⟩ := hrel
    go_wp2_with fail
    refine (wakes18_any _).mono ?_
    rintro e w1 ⟨rfl, x1⟩
    have E1 : Ext w w1 := FX.out.trans x1
    go_wp2_with fail
    go_ret
    exact ⟨rfl, E1⟩
end Go.Proofs.Ytojcndgoihkfnaa
