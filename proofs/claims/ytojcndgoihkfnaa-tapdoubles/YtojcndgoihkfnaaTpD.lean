/- TapDoubles. -/
import Derived.Test.YtojcndgoihkfnaaTp3
namespace Go.Proofs.Ytojcndgoihkfnaa
open Go.RowKit Go.Shelf
/-- a vector as it comes in -/
def Near3 (x y z : Int) : Prop := (-19613300 ≤ x ∧ x ≤ 19613300) ∧ (-19613300 ≤ y ∧ y ≤ 19613300) ∧ (-19613300 ≤ z ∧ z ≤ 19613300)
theorem Near3.ok {x y z : Int} (h : Near3 x y z) : ok3 x y z = true := by
  obtain ⟨h1, h2, h3⟩ := h
  exact ok3_of ⟨by omega, by omega⟩ ⟨by omega, by omega⟩ ⟨by omega, by omega⟩
/-- between rounds -/
def DI (on : Bool) (x y z s p N g : Int) (k : Nat) : Prop :=
  Near3 x y z ∧ (on = false → x = 0 ∧ y = 0 ∧ z = 0 ∧ s = 0 ∧ p = 0) ∧ 0 ≤ N ∧ N ≤ 89 * k ∧ k ≤ 80 ∧ (0 ≤ s ∧ s ≤ N + 1) ∧ (0 ≤ p ∧ p ≤ N + 1) ∧ g = p - 1
/-- what a sample tells -/
def Told (N g s' p' c : Int) : Prop :=
  (0 ≤ s' ∧ s' ≤ N + 1) ∧ ((c = 0 ∧ p' = g + 1) ∨ (c = 1 ∧ p' = N + 1 ∧ (0 ≤ g → 300 < N - g)) ∨ (c = 2 ∧ p' = 0 ∧ 0 ≤ g ∧ N - g ≤ 300))
/-- one that stays tells nothing, if none is begun -/
theorem same_take {x y z s p n : Int} (hn : Near3 x y z) (hs : 0 ≤ s ∧ s ≤ n + 1) (hp : 0 ≤ p ∧ p ≤ n + 1) (h : 0 ≤ n ∧ n ≤ 10000) : ∃ s2 p2 c2, (c2 = 0 ∨ (c2 = 1 ∨ c2 = 2) ∧ 0 < s) ∧ ∀ w, Calls Try.prog 8 #[.agg #[.bool true, .int .i64 x, .int .i64 y, .int .i64 z, .int .i64 s, .int .i64 p], .agg #[.int .i64 x, .int .i64 y, .int .i64 z], .int .i64 n] w fun e w' => e = .returned (.tuple #[.agg #[.bool true, .int .i64 x, .int .i64 y, .int .i64 z, .int .i64 s2, .int .i64 p2], .int .i64 c2, .int .i64 0]) ∧ Ext w w' := by
  obtain ⟨k, hk⟩ := rootQ_exists (sq3 (x - x) (y - y) (z - z)) 1 (by decide)
  have hf := far_most (A := 0) (B := 0) (C := 0) (N := 0) hk (by omega) (by omega) (by omega) (by decide)
  have ht := fun w => take_told x y z s p x y z n k w (okTp_of hn.ok ⟨by omega, by omega⟩ ⟨by omega, by omega⟩) hn.ok (okTm_iff.2 ⟨by omega, by omega⟩) (by omega) (by omega) (ok3_of ⟨by omega, by omega⟩ ⟨by omega, by omega⟩ ⟨by omega, by omega⟩) hk (okW_of (by omega) (by omega))
  refine ⟨_, _, _, ?_, ht⟩
  by_cases h0 : s = 0
  · have e : phs s p k (n + 1) = 0 := by unfold phs; rw [if_neg (by omega), if_pos h0]
    rw [e]; exact Or.inl rfl
  · have hl := phs_lt s p k (n + 1)
    generalize phs s p k (n + 1) = q at *
    have h1 : 0 < s := by omega
    match q, hl with
    | 0, _ => exact Or.inl rfl
    | 1, _ => exact Or.inl rfl
    | 2, _ => exact Or.inl rfl
    | 3, _ => exact Or.inr ⟨Or.inl rfl, h1⟩
    | 4, _ => exact Or.inr ⟨Or.inr rfl, h1⟩
    | 5, _ => exact Or.inl rfl
theorem any_take {on : Bool} {x y z s p N g X Y Z n : Int} {k : Nat} (h : DI on x y z s p N g k) (hX : Near3 X Y Z) (hn : N ≤ n ∧ n ≤ 9000) : ∃ s2 p2 c, Told n g s2 p2 c ∧ ∀ w, Calls Try.prog 8 #[.agg #[.bool on, .int .i64 x, .int .i64 y, .int .i64 z, .int .i64 s, .int .i64 p], .agg #[.int .i64 X, .int .i64 Y, .int .i64 Z], .int .i64 n] w fun e w' => e = .returned (.tuple #[.agg #[.bool true, .int .i64 X, .int .i64 Y, .int .i64 Z, .int .i64 s2, .int .i64 p2], .int .i64 c, .int .i64 0]) ∧ Ext w w' := by
  obtain ⟨h1, h2, h3, h4, h5, h6, h7, rfl⟩ := h
  cases on
  · obtain ⟨rfl, rfl, rfl, rfl, rfl⟩ := h2 rfl
    exact ⟨0, 0, 0, ⟨⟨by omega, by omega⟩, Or.inl ⟨rfl, by omega⟩⟩, fun w => take_off X Y Z n w hX.ok (okTm_iff.2 ⟨by omega, by omega⟩)⟩
  · obtain ⟨j, hj⟩ := rootQ_exists (sq3 (X - x) (Y - y) (Z - z)) 1 (by decide)
    obtain ⟨⟨a1, a2⟩, ⟨b1, b2⟩, c1, c2⟩ := h1
    have hX' := hX
    obtain ⟨⟨A1, A2⟩, ⟨B1, B2⟩, C1, C2⟩ := hX'
    have hf := far_most (A := 39226600) (B := 39226600) (C := 39226600) (N := 78453200) hj (by omega) (by omega) (by omega) (by decide)
    have ht := fun w => take_told x y z s p X Y Z n j w (okTp_of (ok3_of ⟨by omega, by omega⟩ ⟨by omega, by omega⟩ ⟨by omega, by omega⟩) ⟨by omega, by omega⟩ ⟨by omega, by omega⟩) hX.ok (okTm_iff.2 ⟨by omega, by omega⟩) (by omega) (by omega) (ok3_of ⟨by omega, by omega⟩ ⟨by omega, by omega⟩ ⟨by omega, by omega⟩) hj (okW_of (by omega) (by omega))
    refine ⟨_, _, _, ?_, ht⟩
    unfold phs
    by_cases q1 : 9806650 < (j : Int)
    · rw [if_pos q1]
      by_cases q2 : s = 0
      · rw [if_pos q2]; exact ⟨⟨by show 0 ≤ n + 1; omega, by show n + 1 ≤ n + 1; omega⟩, Or.inl ⟨rfl, by show p = _; omega⟩⟩
      · rw [if_neg q2]; exact ⟨⟨by show 0 ≤ s; omega, by show s ≤ n + 1; omega⟩, Or.inl ⟨rfl, by show p = _; omega⟩⟩
    · rw [if_neg q1]
      by_cases q2 : s = 0
      · rw [if_pos q2]; exact ⟨⟨by show (0 : Int) ≤ 0; omega, by show 0 ≤ n + 1; omega⟩, Or.inl ⟨rfl, by show p = _; omega⟩⟩
      · rw [if_neg q2]
        by_cases q3 : 60 < n + 1 - s
        · rw [if_pos q3]; exact ⟨⟨by show (0 : Int) ≤ 0; omega, by show 0 ≤ n + 1; omega⟩, Or.inl ⟨rfl, by show p = _; omega⟩⟩
        · rw [if_neg q3]
          by_cases q4 : p ≠ 0 ∧ n + 1 - p ≤ 300
          · rw [if_pos q4]; exact ⟨⟨by show (0 : Int) ≤ 0; omega, by show 0 ≤ n + 1; omega⟩, Or.inr (Or.inr ⟨rfl, rfl, by omega, by omega⟩)⟩
          · rw [if_neg q4]; exact ⟨⟨by show (0 : Int) ≤ 0; omega, by show 0 ≤ n + 1; omega⟩, Or.inr (Or.inl ⟨rfl, rfl, fun hg => by omega⟩)⟩
set_option maxRecDepth 20000 in
set_option maxHeartbeats 40000000 in
theorem tapdoubles_any (b off len cap : Nat) (C : Nat → Nat → Value) (w : World) (hl : len ≤ maxLen) (hc : ML 10 (fun j => j == 0) w b off len C) :
    Calls Try.prog 5 #[.slice (some ⟨b, off, none⟩) len cap] w fun e w' => e = .returned (.bool true) ∧ Ext w w' := by
  have hl' : len ≤ 9223372036854775807 := by unfold maxLen at hl; omega
  clear hl
  have D0 : Hid (DI false 0 0 0 0 0 0 (-1) 0) := by show DI _ _ _ _ _ _ _ _ _; unfold DI Near3; simp
  have Ft : Hid (HV (w.alloc (.cells #[.bool false, .int .i64 0, .int .i64 0, .int .i64 0, .int .i64 0, .int .i64 0] 26)) w.heap.size [.bool false, .int .i64 0, .int .i64 0, .int .i64 0, .int .i64 0, .int .i64 0]) := hv_at rfl
  have FX : Hid (Ext w (w.alloc (.cells #[.bool false, .int .i64 0, .int .i64 0, .int .i64 0, .int .i64 0, .int .i64 0] 26))) := (Ext.refl _).alloc _
  have Lt : Hid (w.heap.size ≤ w.heap.size) := Nat.le_refl _
  go_enter Try.func5, Try.ntmps5
  go_upto_region 2 with fail
  generalize (w.alloc (.cells #[.bool false, .int .i64 0, .int .i64 0, .int .i64 0, .int .i64 0, .int .i64 0] 26)) = wa at *
  go_wp2_with fail
  go_loopw [4, 5, 6] (fun vN vg vi wr => ∃ (k : Nat) (on : Bool) (x y z s p N g : Int), k ≤ len ∧ vi = .int .i64 k ∧ vN = .int .i64 N ∧ vg = .int .i64 g ∧ Hid (DI on x y z s p N g k) ∧ Hid (HV wr w.heap.size [.bool on, .int .i64 x, .int .i64 y, .int .i64 z, .int .i64 s, .int .i64 p]) ∧ Hid (Ext w wr)) (fun _ _ i _ => len - (intOf i).toNat)
  case atStart => exact ⟨0, false, 0, 0, 0, 0, 0, 0, -1, Nat.zero_le _, rfl, rfl, rfl, D0, Ft, FX⟩
  case round =>
    clear D0 Ft FX
    obtain ⟨k, on, x, y, z, s, p, N, g, hk, rfl, rfl, rfl, HD, Ft, FX⟩ := hrel
    by_cases hlt : k < len
    · by_cases h5 : k < 80
      · skip
        obtain ⟨za, h6, _⟩ := hc.num hlt (j := 6) (by omega) rfl
        obtain ⟨zb, h7, _⟩ := hc.num hlt (j := 7) (by omega) rfl
        obtain ⟨zc, h8, _⟩ := hc.num hlt (j := 8) (by omega) rfl
        obtain ⟨zn, h9, _⟩ := hc.num hlt (j := 9) (by omega) rfl
        have c6 := FX.out.keepc h6
        have c7 := FX.out.keepc h7
        have c8 := FX.out.keepc h8
        have hlt' : (k : Int) < (len : Int) := by omega
        clear hc
        have HV0 : Hid (∀ w, Calls Try.prog 6 #[.agg #[.int .i64 za, .int .i64 zb, .int .i64 zc], .int .i64 19613300] w fun e w' => e = .returned (.agg #[.int .i64 ((brt 19613300 za)), .int .i64 ((brt 19613300 zb)), .int .i64 ((brt 19613300 zc))]) ∧ Ext w w') := fun w => brvec_19613300 za zb zc w
        have HB : Hid (Near3 (brt 19613300 za) (brt 19613300 zb) (brt 19613300 zc)) := ⟨brt_bounds 19613300 za (by omega), brt_bounds 19613300 zb (by omega), brt_bounds 19613300 zc (by omega)⟩
        generalize brt 19613300 za = a at *
        generalize brt 19613300 zb = b at *
        generalize brt 19613300 zc = c at *
        have HN3 : Hid (∀ w, Calls Try.prog 7 #[.int .i64 zn, .int .i64 3] w fun e w' => e = .returned (.int .i64 (zn % 18446744073709551616 % 3)) ∧ w' = w) := within_3 zn
        have Be : Hid (0 ≤ zn % 18446744073709551616 % 3 ∧ zn % 18446744073709551616 % 3 ≤ 2) := ⟨by omega, by omega⟩
        have HN : Hid (∀ w, Calls Try.prog 7 #[.int .i64 zn, .int .i64 90] w fun e w' => e = .returned (.int .i64 (zn % 18446744073709551616 % 90)) ∧ w' = w) := within_90 zn
        have Bq : Hid (0 ≤ zn % 18446744073709551616 % 90 ∧ zn % 18446744073709551616 % 90 ≤ 89) := ⟨by omega, by omega⟩
        generalize zn % 18446744073709551616 % 3 = e at *
        generalize zn % 18446744073709551616 % 90 = q at *
        clear Be
        go_upto_region 8 with (first | (go_at_call 6; refine (HV0.out _).mono ?_; rintro e w1 ⟨rfl, x1⟩))
        have Ft : Hid (HV w1 w.heap.size [.bool on, .int .i64 x, .int .i64 y, .int .i64 z, .int .i64 s, .int .i64 p]) := Ft.out.ext x1
        have FX : Hid (Ext w w1) := FX.out.trans x1
        clear x1 HV0 c6 c7 c8
        have lttv : w.heap.size < w1.heap.size := Ft.out.1
        have Lv : Hid (w.heap.size ≤ w1.heap.size) := FX.out.size
        have Ft : Hid (HV (w1.alloc (.cells #[.int .i64 a, .int .i64 b, .int .i64 c] 24)) w.heap.size [.bool on, .int .i64 x, .int .i64 y, .int .i64 z, .int .i64 s, .int .i64 p]) := Ft.out.alloc _
        have Fv : Hid (HV (w1.alloc (.cells #[.int .i64 a, .int .i64 b, .int .i64 c] 24)) w1.heap.size [.int .i64 a, .int .i64 b, .int .i64 c]) := hv_at rfl
        have FX : Hid (Ext w (w1.alloc (.cells #[.int .i64 a, .int .i64 b, .int .i64 c] 24))) := FX.out.alloc _
        generalize (w1.alloc (.cells #[.int .i64 a, .int .i64 b, .int .i64 c] 24)) = wx1 at *
        generalize w1.heap.size = nd at *
        have c9 := FX.out.keepc h9
        go_upto_if 37 with (go_at_call 7; refine (HN3.out _).mono ?_; rintro e wx ⟨rfl, hwx⟩; have hwy := hwx.symm; clear hwx; subst hwy)
        clear HN3 c9
        go_cut [] from 15 to 126 (fun wx => ∃ X Y Z : Int, Hid (Near3 X Y Z) ∧ Hid (HV wx nd [.int .i64 X, .int .i64 Y, .int .i64 Z]) ∧ Hid (HV wx w.heap.size [.bool on, .int .i64 x, .int .i64 y, .int .i64 z, .int .i64 s, .int .i64 p]) ∧ Hid (Ext w wx))
        case first =>
          have hb := HB.out
          have hd := HD.out.1
          by_cases he : e = 0
          · subst he
            have k1 : wx1.cell? ⟨w.heap.size, 1, none⟩ = some (.int .i64 x) := Ft.out.c 1 rfl
            have k2 : wx1.cell? ⟨w.heap.size, 2, none⟩ = some (.int .i64 y) := Ft.out.c 2 rfl
            have k3 : wx1.cell? ⟨w.heap.size, 3, none⟩ = some (.int .i64 z) := Ft.out.c 3 rfl
            have o0 : wx1.cell? ⟨nd, 0, none⟩ = some (.int .i64 a) := Fv.out.c 0 rfl
            have f0 : wx1.frozen? ⟨nd, 0, none⟩ = false := Fv.out.f 0 rfl
            have o1 : wx1.cell? ⟨nd, 1, none⟩ = some (.int .i64 b) := Fv.out.c 1 rfl
            have f1 : wx1.frozen? ⟨nd, 1, none⟩ = false := Fv.out.f 1 rfl
            have o2 : wx1.cell? ⟨nd, 2, none⟩ = some (.int .i64 c) := Fv.out.c 2 rfl
            have f2 : wx1.frozen? ⟨nd, 2, none⟩ = false := Fv.out.f 2 rfl
            go_wp2_with fail
            go_meet
            exact ⟨x, y, z, hd, (((Fv.out.set 0 (.int .i64 x)).set 1 (.int .i64 y)).set 2 (.int .i64 z)), (((Ft.out.far (by omega)).far (by omega)).far (by omega)), (((FX.out.set (p := ⟨nd, 0, none⟩) Lv.out _).set (p := ⟨nd, 1, none⟩) Lv.out _).set (p := ⟨nd, 2, none⟩) Lv.out _)⟩
          · have he2 : (e == 0) = false := by simpa using he
            go_wp2_with fail
            go_meet
            exact ⟨a, b, c, hb, Fv, Ft, FX⟩
        case rest =>
          clear HB Ft FX Fv
          obtain ⟨X, Y, Z, HB, Fv, Ft, FX⟩ := hcut
          have c9 := FX.out.keepc h9
          have eq : wrap64 (N + q) = N + q := by
            have h := HD.out
            have hq := Bq.out
            unfold DI at h
            exact neg_wrap64 (by omega) (by omega)
          go_upto_region 11 with (first | (go_at_call 7; refine (HN.out _).mono ?_; rintro e wx ⟨rfl, hwx⟩; have hwy := hwx.symm; clear hwx; subst hwy))
          try rw [eq]
          clear c9 HN eq h6 h7 h8 h9
          obtain ⟨s1, p1, c1, HT1, HTK⟩ := any_take (n := N + q) HD.out HB.out ⟨by have := Bq.out; omega, by have h := HD.out; have hq := Bq.out; unfold DI at h; omega⟩
          have HM : Hid (0 ≤ N + q ∧ N + q ≤ 89 * (k + 1 : Nat) ∧ (-1 ≤ g ∧ g ≤ N + q)) := by
            have h := HD.out
            have hq := Bq.out
            unfold DI at h
            exact ⟨by omega, by omega, by omega, by omega⟩
          clear HD Bq
          generalize N + q = M at *
          have HT : Hid (∀ w, Calls Try.prog 8 #[.agg #[.bool on, .int .i64 x, .int .i64 y, .int .i64 z, .int .i64 s, .int .i64 p], .agg #[.int .i64 X, .int .i64 Y, .int .i64 Z], .int .i64 M] w fun e w' => e = .returned (.tuple #[.agg #[.bool true, .int .i64 X, .int .i64 Y, .int .i64 Z, .int .i64 s1, .int .i64 p1], .int .i64 c1, .int .i64 0]) ∧ Ext w w') := HTK
          clear HTK
          have qt0 : wc.cell? ⟨w.heap.size, 0, none⟩ = some (.bool on) := Ft.out.c 0 rfl
          have qt1 : wc.cell? ⟨w.heap.size, 1, none⟩ = some (.int .i64 x) := Ft.out.c 1 rfl
          have qt2 : wc.cell? ⟨w.heap.size, 2, none⟩ = some (.int .i64 y) := Ft.out.c 2 rfl
          have qt3 : wc.cell? ⟨w.heap.size, 3, none⟩ = some (.int .i64 z) := Ft.out.c 3 rfl
          have qt4 : wc.cell? ⟨w.heap.size, 4, none⟩ = some (.int .i64 s) := Ft.out.c 4 rfl
          have qt5 : wc.cell? ⟨w.heap.size, 5, none⟩ = some (.int .i64 p) := Ft.out.c 5 rfl
          have qv0 : wc.cell? ⟨nd, 0, none⟩ = some (.int .i64 X) := Fv.out.c 0 rfl
          have qv1 : wc.cell? ⟨nd, 1, none⟩ = some (.int .i64 Y) := Fv.out.c 1 rfl
          have qv2 : wc.cell? ⟨nd, 2, none⟩ = some (.int .i64 Z) := Fv.out.c 2 rfl
          go_upto_region 12 with (first | (go_at_call 8; refine (HT.out _).mono ?_; rintro e w2 ⟨rfl, x2⟩))
          have Ft : Hid (HV w2 w.heap.size [.bool on, .int .i64 x, .int .i64 y, .int .i64 z, .int .i64 s, .int .i64 p]) := Ft.out.ext x2
          have Fv : Hid (HV w2 nd [.int .i64 X, .int .i64 Y, .int .i64 Z]) := Fv.out.ext x2
          have FX : Hid (Ext w w2) := FX.out.trans x2
          clear qt0 qt1 qt2 qt3 qt4 qt5 qv0 qv1 qv2 x2 HT
          have lttu : w.heap.size < w2.heap.size := Ft.out.1
          have ltvu : nd < w2.heap.size := Fv.out.1
          have Lu : Hid (w.heap.size ≤ w2.heap.size) := FX.out.size
          have Ft : Hid (HV (w2.alloc (.cells #[.bool true, .int .i64 X, .int .i64 Y, .int .i64 Z, .int .i64 s1, .int .i64 p1] 26)) w.heap.size [.bool on, .int .i64 x, .int .i64 y, .int .i64 z, .int .i64 s, .int .i64 p]) := Ft.out.alloc _
          have Fv : Hid (HV (w2.alloc (.cells #[.bool true, .int .i64 X, .int .i64 Y, .int .i64 Z, .int .i64 s1, .int .i64 p1] 26)) nd [.int .i64 X, .int .i64 Y, .int .i64 Z]) := Fv.out.alloc _
          have Fu : Hid (HV (w2.alloc (.cells #[.bool true, .int .i64 X, .int .i64 Y, .int .i64 Z, .int .i64 s1, .int .i64 p1] 26)) w2.heap.size [.bool true, .int .i64 X, .int .i64 Y, .int .i64 Z, .int .i64 s1, .int .i64 p1]) := hv_at rfl
          have FX : Hid (Ext w (w2.alloc (.cells #[.bool true, .int .i64 X, .int .i64 Y, .int .i64 Z, .int .i64 s1, .int .i64 p1] 26))) := FX.out.alloc _
          generalize (w2.alloc (.cells #[.bool true, .int .i64 X, .int .i64 Y, .int .i64 Z, .int .i64 s1, .int .i64 p1] 26)) = wx2 at *
          generalize w2.heap.size = nu at *
          have HC : Hid (0 ≤ c1 ∧ c1 ≤ 2) := by
            obtain ⟨_, h⟩ := HT1
            show _ ∧ _
            omega
          have d1 : decide (c1 < 0) = false := by have := HC.out; simp; omega
          have d2 : decide (2 < c1) = false := by have := HC.out; simp; omega
          have HT2 : Hid (Told M g s1 p1 c1) := HT1
          clear HT1
          have qu0 : wx2.cell? ⟨nu, 0, none⟩ = some (.bool true) := Fu.out.c 0 rfl
          have qu1 : wx2.cell? ⟨nu, 1, none⟩ = some (.int .i64 X) := Fu.out.c 1 rfl
          have qu2 : wx2.cell? ⟨nu, 2, none⟩ = some (.int .i64 Y) := Fu.out.c 2 rfl
          have qu3 : wx2.cell? ⟨nu, 3, none⟩ = some (.int .i64 Z) := Fu.out.c 3 rfl
          have qv0 : wx2.cell? ⟨nd, 0, none⟩ = some (.int .i64 X) := Fv.out.c 0 rfl
          have qv1 : wx2.cell? ⟨nd, 1, none⟩ = some (.int .i64 Y) := Fv.out.c 1 rfl
          have qv2 : wx2.cell? ⟨nd, 2, none⟩ = some (.int .i64 Z) := Fv.out.c 2 rfl
          go_upto_if 77 with (go_at_call 9; refine (num18_any _ _).mono ?_; rintro e wx ⟨rfl, hwx⟩; have hwy := hwx.symm; clear hwx; subst hwy)
          have hp1 : 0 ≤ p1 ∧ p1 ≤ M + 1 := by
            obtain ⟨_, h⟩ := HT2.out
            have hm := HM.out
            omega
          have HS : Hid (DI true X Y Z s1 p1 M (p1 - 1) (k + 1)) := by
            obtain ⟨hs1, h⟩ := HT2.out
            have hm := HM.out
            exact ⟨HB.out, (fun h => by cases h), hm.1, hm.2.1, by omega, hs1, hp1, rfl⟩
          obtain ⟨s2, p2, c2, H2, HU0⟩ := same_take (s := s1) (p := p1) (n := M) HB.out HT2.out.1 hp1 (by have hm := HM.out; omega)
          have HU : Hid (∀ w, Calls Try.prog 8 #[.agg #[.bool true, .int .i64 X, .int .i64 Y, .int .i64 Z, .int .i64 s1, .int .i64 p1], .agg #[.int .i64 X, .int .i64 Y, .int .i64 Z], .int .i64 M] w fun e w' => e = .returned (.tuple #[.agg #[.bool true, .int .i64 X, .int .i64 Y, .int .i64 Z, .int .i64 s2, .int .i64 p2], .int .i64 c2, .int .i64 0]) ∧ Ext w w') := HU0
          clear HU0 hp1 HB HC
          have ed : wrap64 (M - g) = M - g := by have hm := HM.out; exact neg_wrap64 (by omega) (by omega)
          obtain ⟨_, HT3⟩ := HT2.out
          clear HT2
          have hm := HM.out
          clear HM
          rcases HT3 with ⟨rfl, h1⟩ | ⟨rfl, h1, h2⟩ | ⟨rfl, h1, h2, h3⟩
          · have H1 : Hid (p1 = g + 1) := h1
            clear h1
            clear d1 d2
            go_upto_region 23 with fail
            clear qu0 qu1 qu2 qu3 qv0 qv1 qv2 ed hm
            have qu0 : wx2.cell? ⟨nu, 0, none⟩ = some (.bool true) := Fu.out.c 0 rfl
            have qu1 : wx2.cell? ⟨nu, 1, none⟩ = some (.int .i64 X) := Fu.out.c 1 rfl
            have qu2 : wx2.cell? ⟨nu, 2, none⟩ = some (.int .i64 Y) := Fu.out.c 2 rfl
            have qu3 : wx2.cell? ⟨nu, 3, none⟩ = some (.int .i64 Z) := Fu.out.c 3 rfl
            have qu4 : wx2.cell? ⟨nu, 4, none⟩ = some (.int .i64 s1) := Fu.out.c 4 rfl
            have qu5 : wx2.cell? ⟨nu, 5, none⟩ = some (.int .i64 p1) := Fu.out.c 5 rfl
            have qv0 : wx2.cell? ⟨nd, 0, none⟩ = some (.int .i64 X) := Fv.out.c 0 rfl
            have qv1 : wx2.cell? ⟨nd, 1, none⟩ = some (.int .i64 Y) := Fv.out.c 1 rfl
            have qv2 : wx2.cell? ⟨nd, 2, none⟩ = some (.int .i64 Z) := Fv.out.c 2 rfl
            go_upto_region 24 with (first | (go_at_call 8; refine (HU.out _).mono ?_; rintro e w3 ⟨rfl, x3⟩))
            have Ft : Hid (HV w3 w.heap.size [.bool on, .int .i64 x, .int .i64 y, .int .i64 z, .int .i64 s, .int .i64 p]) := Ft.out.ext x3
            have Fv : Hid (HV w3 nd [.int .i64 X, .int .i64 Y, .int .i64 Z]) := Fv.out.ext x3
            have Fu : Hid (HV w3 nu [.bool true, .int .i64 X, .int .i64 Y, .int .i64 Z, .int .i64 s1, .int .i64 p1]) := Fu.out.ext x3
            have FX : Hid (Ext w w3) := FX.out.trans x3
            clear qu0 qu1 qu2 qu3 qu4 qu5 qv0 qv1 qv2 x3 HU
            have lttx : w.heap.size < w3.heap.size := Ft.out.1
            have ltvx : nd < w3.heap.size := Fv.out.1
            have ltux : nu < w3.heap.size := Fu.out.1
            have Lx : Hid (w.heap.size ≤ w3.heap.size) := FX.out.size
            have Ft : Hid (HV (w3.alloc (.cells #[.bool true, .int .i64 X, .int .i64 Y, .int .i64 Z, .int .i64 s2, .int .i64 p2] 26)) w.heap.size [.bool on, .int .i64 x, .int .i64 y, .int .i64 z, .int .i64 s, .int .i64 p]) := Ft.out.alloc _
            have Fv : Hid (HV (w3.alloc (.cells #[.bool true, .int .i64 X, .int .i64 Y, .int .i64 Z, .int .i64 s2, .int .i64 p2] 26)) nd [.int .i64 X, .int .i64 Y, .int .i64 Z]) := Fv.out.alloc _
            have Fu : Hid (HV (w3.alloc (.cells #[.bool true, .int .i64 X, .int .i64 Y, .int .i64 Z, .int .i64 s2, .int .i64 p2] 26)) nu [.bool true, .int .i64 X, .int .i64 Y, .int .i64 Z, .int .i64 s1, .int .i64 p1]) := Fu.out.alloc _
            have Fx : Hid (HV (w3.alloc (.cells #[.bool true, .int .i64 X, .int .i64 Y, .int .i64 Z, .int .i64 s2, .int .i64 p2] 26)) w3.heap.size [.bool true, .int .i64 X, .int .i64 Y, .int .i64 Z, .int .i64 s2, .int .i64 p2]) := hv_at rfl
            have FX : Hid (Ext w (w3.alloc (.cells #[.bool true, .int .i64 X, .int .i64 Y, .int .i64 Z, .int .i64 s2, .int .i64 p2] 26))) := FX.out.alloc _
            generalize (w3.alloc (.cells #[.bool true, .int .i64 X, .int .i64 Y, .int .i64 Z, .int .i64 s2, .int .i64 p2] 26)) = wx21 at *
            generalize w3.heap.size = nx at *
            rcases H2 with rfl | ⟨hc2, hs⟩
            · have qu0 : wx21.cell? ⟨nu, 0, none⟩ = some (.bool true) := Fu.out.c 0 rfl
              have qu1 : wx21.cell? ⟨nu, 1, none⟩ = some (.int .i64 X) := Fu.out.c 1 rfl
              have qu2 : wx21.cell? ⟨nu, 2, none⟩ = some (.int .i64 Y) := Fu.out.c 2 rfl
              have qu3 : wx21.cell? ⟨nu, 3, none⟩ = some (.int .i64 Z) := Fu.out.c 3 rfl
              have qu4 : wx21.cell? ⟨nu, 4, none⟩ = some (.int .i64 s1) := Fu.out.c 4 rfl
              have qu5 : wx21.cell? ⟨nu, 5, none⟩ = some (.int .i64 p1) := Fu.out.c 5 rfl
              have qv0 : wx21.cell? ⟨nd, 0, none⟩ = some (.int .i64 X) := Fv.out.c 0 rfl
              have qv1 : wx21.cell? ⟨nd, 1, none⟩ = some (.int .i64 Y) := Fv.out.c 1 rfl
              have qv2 : wx21.cell? ⟨nd, 2, none⟩ = some (.int .i64 Z) := Fv.out.c 2 rfl
              have qx0 : wx21.cell? ⟨nx, 0, none⟩ = some (.bool true) := Fx.out.c 0 rfl
              have qx1 : wx21.cell? ⟨nx, 1, none⟩ = some (.int .i64 X) := Fx.out.c 1 rfl
              have qx2 : wx21.cell? ⟨nx, 2, none⟩ = some (.int .i64 Y) := Fx.out.c 2 rfl
              have qx3 : wx21.cell? ⟨nx, 3, none⟩ = some (.int .i64 Z) := Fx.out.c 3 rfl
              have y0 : wx21.cell? ⟨w.heap.size, 0, none⟩ = some (.bool on) := Ft.out.c 0 rfl
              have g0 : wx21.frozen? ⟨w.heap.size, 0, none⟩ = false := Ft.out.f 0 rfl
              have y1 : wx21.cell? ⟨w.heap.size, 1, none⟩ = some (.int .i64 x) := Ft.out.c 1 rfl
              have g1 : wx21.frozen? ⟨w.heap.size, 1, none⟩ = false := Ft.out.f 1 rfl
              have y2 : wx21.cell? ⟨w.heap.size, 2, none⟩ = some (.int .i64 y) := Ft.out.c 2 rfl
              have g2 : wx21.frozen? ⟨w.heap.size, 2, none⟩ = false := Ft.out.f 2 rfl
              have y3 : wx21.cell? ⟨w.heap.size, 3, none⟩ = some (.int .i64 z) := Ft.out.c 3 rfl
              have g3 : wx21.frozen? ⟨w.heap.size, 3, none⟩ = false := Ft.out.f 3 rfl
              have y4 : wx21.cell? ⟨w.heap.size, 4, none⟩ = some (.int .i64 s) := Ft.out.c 4 rfl
              have g4 : wx21.frozen? ⟨w.heap.size, 4, none⟩ = false := Ft.out.f 4 rfl
              have y5 : wx21.cell? ⟨w.heap.size, 5, none⟩ = some (.int .i64 p) := Ft.out.c 5 rfl
              have g5 : wx21.frozen? ⟨w.heap.size, 5, none⟩ = false := Ft.out.f 5 rfl
              go_wp2_with (go_at_call 9; refine (num18_any _ _).mono ?_; rintro e wx ⟨rfl, hwx⟩; have hwy := hwx.symm; clear hwx; subst hwy)
              go_roundw
              case rel => exact ⟨k + 1, true, X, Y, Z, s1, p1, M, p1 - 1, by omega, by go_num, rfl, by rw [H1.out]; simp, HS, ((((((Ft.out.set 0 (.bool true)).set 1 (.int .i64 X)).set 2 (.int .i64 Y)).set 3 (.int .i64 Z)).set 4 (.int .i64 s1)).set 5 (.int .i64 p1)), ((((((FX.out.set (p := ⟨w.heap.size, 0, none⟩) Lt.out _).set (p := ⟨w.heap.size, 1, none⟩) Lt.out _).set (p := ⟨w.heap.size, 2, none⟩) Lt.out _).set (p := ⟨w.heap.size, 3, none⟩) Lt.out _).set (p := ⟨w.heap.size, 4, none⟩) Lt.out _).set (p := ⟨w.heap.size, 5, none⟩) Lt.out _)⟩
              case measure => simp [intOf]; omega
            · have e1 : (c2 != 0) = true := by simp; omega
              have e2 : (s1 == 0) = false := by simp; omega
              clear hc2 hs
              have qu0 : wx21.cell? ⟨nu, 0, none⟩ = some (.bool true) := Fu.out.c 0 rfl
              have qu1 : wx21.cell? ⟨nu, 1, none⟩ = some (.int .i64 X) := Fu.out.c 1 rfl
              have qu2 : wx21.cell? ⟨nu, 2, none⟩ = some (.int .i64 Y) := Fu.out.c 2 rfl
              have qu3 : wx21.cell? ⟨nu, 3, none⟩ = some (.int .i64 Z) := Fu.out.c 3 rfl
              have qu4 : wx21.cell? ⟨nu, 4, none⟩ = some (.int .i64 s1) := Fu.out.c 4 rfl
              have qu5 : wx21.cell? ⟨nu, 5, none⟩ = some (.int .i64 p1) := Fu.out.c 5 rfl
              have qv0 : wx21.cell? ⟨nd, 0, none⟩ = some (.int .i64 X) := Fv.out.c 0 rfl
              have qv1 : wx21.cell? ⟨nd, 1, none⟩ = some (.int .i64 Y) := Fv.out.c 1 rfl
              have qv2 : wx21.cell? ⟨nd, 2, none⟩ = some (.int .i64 Z) := Fv.out.c 2 rfl
              have qx0 : wx21.cell? ⟨nx, 0, none⟩ = some (.bool true) := Fx.out.c 0 rfl
              have qx1 : wx21.cell? ⟨nx, 1, none⟩ = some (.int .i64 X) := Fx.out.c 1 rfl
              have qx2 : wx21.cell? ⟨nx, 2, none⟩ = some (.int .i64 Y) := Fx.out.c 2 rfl
              have qx3 : wx21.cell? ⟨nx, 3, none⟩ = some (.int .i64 Z) := Fx.out.c 3 rfl
              have y0 : wx21.cell? ⟨w.heap.size, 0, none⟩ = some (.bool on) := Ft.out.c 0 rfl
              have g0 : wx21.frozen? ⟨w.heap.size, 0, none⟩ = false := Ft.out.f 0 rfl
              have y1 : wx21.cell? ⟨w.heap.size, 1, none⟩ = some (.int .i64 x) := Ft.out.c 1 rfl
              have g1 : wx21.frozen? ⟨w.heap.size, 1, none⟩ = false := Ft.out.f 1 rfl
              have y2 : wx21.cell? ⟨w.heap.size, 2, none⟩ = some (.int .i64 y) := Ft.out.c 2 rfl
              have g2 : wx21.frozen? ⟨w.heap.size, 2, none⟩ = false := Ft.out.f 2 rfl
              have y3 : wx21.cell? ⟨w.heap.size, 3, none⟩ = some (.int .i64 z) := Ft.out.c 3 rfl
              have g3 : wx21.frozen? ⟨w.heap.size, 3, none⟩ = false := Ft.out.f 3 rfl
              have y4 : wx21.cell? ⟨w.heap.size, 4, none⟩ = some (.int .i64 s) := Ft.out.c 4 rfl
              have g4 : wx21.frozen? ⟨w.heap.size, 4, none⟩ = false := Ft.out.f 4 rfl
              have y5 : wx21.cell? ⟨w.heap.size, 5, none⟩ = some (.int .i64 p) := Ft.out.c 5 rfl
              have g5 : wx21.frozen? ⟨w.heap.size, 5, none⟩ = false := Ft.out.f 5 rfl
              go_wp2_with (go_at_call 9; refine (num18_any _ _).mono ?_; rintro e wx ⟨rfl, hwx⟩; have hwy := hwx.symm; clear hwx; subst hwy)
              go_roundw
              case rel => exact ⟨k + 1, true, X, Y, Z, s1, p1, M, p1 - 1, by omega, by go_num, rfl, by rw [H1.out]; simp, HS, ((((((Ft.out.set 0 (.bool true)).set 1 (.int .i64 X)).set 2 (.int .i64 Y)).set 3 (.int .i64 Z)).set 4 (.int .i64 s1)).set 5 (.int .i64 p1)), ((((((FX.out.set (p := ⟨w.heap.size, 0, none⟩) Lt.out _).set (p := ⟨w.heap.size, 1, none⟩) Lt.out _).set (p := ⟨w.heap.size, 2, none⟩) Lt.out _).set (p := ⟨w.heap.size, 3, none⟩) Lt.out _).set (p := ⟨w.heap.size, 4, none⟩) Lt.out _).set (p := ⟨w.heap.size, 5, none⟩) Lt.out _)⟩
              case measure => simp [intOf]; omega
          · by_cases hg : 0 ≤ g
            · have h4 := h2 hg
              have g1 : decide (M - g ≤ 300) = false := by simp; omega
              have g2 : decide (0 ≤ g) = true := by simpa using hg
              have H1 : Hid (p1 = M + 1) := h1
              clear h4 h2 hg h1
              clear d1 d2
              go_upto_region 23 with fail
              clear qu0 qu1 qu2 qu3 qv0 qv1 qv2 ed hm
              have qu0 : wx2.cell? ⟨nu, 0, none⟩ = some (.bool true) := Fu.out.c 0 rfl
              have qu1 : wx2.cell? ⟨nu, 1, none⟩ = some (.int .i64 X) := Fu.out.c 1 rfl
              have qu2 : wx2.cell? ⟨nu, 2, none⟩ = some (.int .i64 Y) := Fu.out.c 2 rfl
              have qu3 : wx2.cell? ⟨nu, 3, none⟩ = some (.int .i64 Z) := Fu.out.c 3 rfl
              have qu4 : wx2.cell? ⟨nu, 4, none⟩ = some (.int .i64 s1) := Fu.out.c 4 rfl
              have qu5 : wx2.cell? ⟨nu, 5, none⟩ = some (.int .i64 p1) := Fu.out.c 5 rfl
              have qv0 : wx2.cell? ⟨nd, 0, none⟩ = some (.int .i64 X) := Fv.out.c 0 rfl
              have qv1 : wx2.cell? ⟨nd, 1, none⟩ = some (.int .i64 Y) := Fv.out.c 1 rfl
              have qv2 : wx2.cell? ⟨nd, 2, none⟩ = some (.int .i64 Z) := Fv.out.c 2 rfl
              go_upto_region 24 with (first | (go_at_call 8; refine (HU.out _).mono ?_; rintro e w3 ⟨rfl, x3⟩))
              have Ft : Hid (HV w3 w.heap.size [.bool on, .int .i64 x, .int .i64 y, .int .i64 z, .int .i64 s, .int .i64 p]) := Ft.out.ext x3
              have Fv : Hid (HV w3 nd [.int .i64 X, .int .i64 Y, .int .i64 Z]) := Fv.out.ext x3
              have Fu : Hid (HV w3 nu [.bool true, .int .i64 X, .int .i64 Y, .int .i64 Z, .int .i64 s1, .int .i64 p1]) := Fu.out.ext x3
              have FX : Hid (Ext w w3) := FX.out.trans x3
              clear qu0 qu1 qu2 qu3 qu4 qu5 qv0 qv1 qv2 x3 HU
              have lttx : w.heap.size < w3.heap.size := Ft.out.1
              have ltvx : nd < w3.heap.size := Fv.out.1
              have ltux : nu < w3.heap.size := Fu.out.1
              have Lx : Hid (w.heap.size ≤ w3.heap.size) := FX.out.size
              have Ft : Hid (HV (w3.alloc (.cells #[.bool true, .int .i64 X, .int .i64 Y, .int .i64 Z, .int .i64 s2, .int .i64 p2] 26)) w.heap.size [.bool on, .int .i64 x, .int .i64 y, .int .i64 z, .int .i64 s, .int .i64 p]) := Ft.out.alloc _
              have Fv : Hid (HV (w3.alloc (.cells #[.bool true, .int .i64 X, .int .i64 Y, .int .i64 Z, .int .i64 s2, .int .i64 p2] 26)) nd [.int .i64 X, .int .i64 Y, .int .i64 Z]) := Fv.out.alloc _
              have Fu : Hid (HV (w3.alloc (.cells #[.bool true, .int .i64 X, .int .i64 Y, .int .i64 Z, .int .i64 s2, .int .i64 p2] 26)) nu [.bool true, .int .i64 X, .int .i64 Y, .int .i64 Z, .int .i64 s1, .int .i64 p1]) := Fu.out.alloc _
              have Fx : Hid (HV (w3.alloc (.cells #[.bool true, .int .i64 X, .int .i64 Y, .int .i64 Z, .int .i64 s2, .int .i64 p2] 26)) w3.heap.size [.bool true, .int .i64 X, .int .i64 Y, .int .i64 Z, .int .i64 s2, .int .i64 p2]) := hv_at rfl
              have FX : Hid (Ext w (w3.alloc (.cells #[.bool true, .int .i64 X, .int .i64 Y, .int .i64 Z, .int .i64 s2, .int .i64 p2] 26))) := FX.out.alloc _
              generalize (w3.alloc (.cells #[.bool true, .int .i64 X, .int .i64 Y, .int .i64 Z, .int .i64 s2, .int .i64 p2] 26)) = wx21 at *
              generalize w3.heap.size = nx at *
              rcases H2 with rfl | ⟨hc2, hs⟩
              · have qu0 : wx21.cell? ⟨nu, 0, none⟩ = some (.bool true) := Fu.out.c 0 rfl
                have qu1 : wx21.cell? ⟨nu, 1, none⟩ = some (.int .i64 X) := Fu.out.c 1 rfl
                have qu2 : wx21.cell? ⟨nu, 2, none⟩ = some (.int .i64 Y) := Fu.out.c 2 rfl
                have qu3 : wx21.cell? ⟨nu, 3, none⟩ = some (.int .i64 Z) := Fu.out.c 3 rfl
                have qu4 : wx21.cell? ⟨nu, 4, none⟩ = some (.int .i64 s1) := Fu.out.c 4 rfl
                have qu5 : wx21.cell? ⟨nu, 5, none⟩ = some (.int .i64 p1) := Fu.out.c 5 rfl
                have qv0 : wx21.cell? ⟨nd, 0, none⟩ = some (.int .i64 X) := Fv.out.c 0 rfl
                have qv1 : wx21.cell? ⟨nd, 1, none⟩ = some (.int .i64 Y) := Fv.out.c 1 rfl
                have qv2 : wx21.cell? ⟨nd, 2, none⟩ = some (.int .i64 Z) := Fv.out.c 2 rfl
                have qx0 : wx21.cell? ⟨nx, 0, none⟩ = some (.bool true) := Fx.out.c 0 rfl
                have qx1 : wx21.cell? ⟨nx, 1, none⟩ = some (.int .i64 X) := Fx.out.c 1 rfl
                have qx2 : wx21.cell? ⟨nx, 2, none⟩ = some (.int .i64 Y) := Fx.out.c 2 rfl
                have qx3 : wx21.cell? ⟨nx, 3, none⟩ = some (.int .i64 Z) := Fx.out.c 3 rfl
                have y0 : wx21.cell? ⟨w.heap.size, 0, none⟩ = some (.bool on) := Ft.out.c 0 rfl
                have g0 : wx21.frozen? ⟨w.heap.size, 0, none⟩ = false := Ft.out.f 0 rfl
                have y1 : wx21.cell? ⟨w.heap.size, 1, none⟩ = some (.int .i64 x) := Ft.out.c 1 rfl
                have g1 : wx21.frozen? ⟨w.heap.size, 1, none⟩ = false := Ft.out.f 1 rfl
                have y2 : wx21.cell? ⟨w.heap.size, 2, none⟩ = some (.int .i64 y) := Ft.out.c 2 rfl
                have g2 : wx21.frozen? ⟨w.heap.size, 2, none⟩ = false := Ft.out.f 2 rfl
                have y3 : wx21.cell? ⟨w.heap.size, 3, none⟩ = some (.int .i64 z) := Ft.out.c 3 rfl
                have g3 : wx21.frozen? ⟨w.heap.size, 3, none⟩ = false := Ft.out.f 3 rfl
                have y4 : wx21.cell? ⟨w.heap.size, 4, none⟩ = some (.int .i64 s) := Ft.out.c 4 rfl
                have g4 : wx21.frozen? ⟨w.heap.size, 4, none⟩ = false := Ft.out.f 4 rfl
                have y5 : wx21.cell? ⟨w.heap.size, 5, none⟩ = some (.int .i64 p) := Ft.out.c 5 rfl
                have g5 : wx21.frozen? ⟨w.heap.size, 5, none⟩ = false := Ft.out.f 5 rfl
                go_wp2_with (go_at_call 9; refine (num18_any _ _).mono ?_; rintro e wx ⟨rfl, hwx⟩; have hwy := hwx.symm; clear hwx; subst hwy)
                go_roundw
                case rel => exact ⟨k + 1, true, X, Y, Z, s1, p1, M, p1 - 1, by omega, by go_num, rfl, by rw [H1.out]; simp, HS, ((((((Ft.out.set 0 (.bool true)).set 1 (.int .i64 X)).set 2 (.int .i64 Y)).set 3 (.int .i64 Z)).set 4 (.int .i64 s1)).set 5 (.int .i64 p1)), ((((((FX.out.set (p := ⟨w.heap.size, 0, none⟩) Lt.out _).set (p := ⟨w.heap.size, 1, none⟩) Lt.out _).set (p := ⟨w.heap.size, 2, none⟩) Lt.out _).set (p := ⟨w.heap.size, 3, none⟩) Lt.out _).set (p := ⟨w.heap.size, 4, none⟩) Lt.out _).set (p := ⟨w.heap.size, 5, none⟩) Lt.out _)⟩
                case measure => simp [intOf]; omega
              · have e1 : (c2 != 0) = true := by simp; omega
                have e2 : (s1 == 0) = false := by simp; omega
                clear hc2 hs
                have qu0 : wx21.cell? ⟨nu, 0, none⟩ = some (.bool true) := Fu.out.c 0 rfl
                have qu1 : wx21.cell? ⟨nu, 1, none⟩ = some (.int .i64 X) := Fu.out.c 1 rfl
                have qu2 : wx21.cell? ⟨nu, 2, none⟩ = some (.int .i64 Y) := Fu.out.c 2 rfl
                have qu3 : wx21.cell? ⟨nu, 3, none⟩ = some (.int .i64 Z) := Fu.out.c 3 rfl
                have qu4 : wx21.cell? ⟨nu, 4, none⟩ = some (.int .i64 s1) := Fu.out.c 4 rfl
                have qu5 : wx21.cell? ⟨nu, 5, none⟩ = some (.int .i64 p1) := Fu.out.c 5 rfl
                have qv0 : wx21.cell? ⟨nd, 0, none⟩ = some (.int .i64 X) := Fv.out.c 0 rfl
                have qv1 : wx21.cell? ⟨nd, 1, none⟩ = some (.int .i64 Y) := Fv.out.c 1 rfl
                have qv2 : wx21.cell? ⟨nd, 2, none⟩ = some (.int .i64 Z) := Fv.out.c 2 rfl
                have qx0 : wx21.cell? ⟨nx, 0, none⟩ = some (.bool true) := Fx.out.c 0 rfl
                have qx1 : wx21.cell? ⟨nx, 1, none⟩ = some (.int .i64 X) := Fx.out.c 1 rfl
                have qx2 : wx21.cell? ⟨nx, 2, none⟩ = some (.int .i64 Y) := Fx.out.c 2 rfl
                have qx3 : wx21.cell? ⟨nx, 3, none⟩ = some (.int .i64 Z) := Fx.out.c 3 rfl
                have y0 : wx21.cell? ⟨w.heap.size, 0, none⟩ = some (.bool on) := Ft.out.c 0 rfl
                have g0 : wx21.frozen? ⟨w.heap.size, 0, none⟩ = false := Ft.out.f 0 rfl
                have y1 : wx21.cell? ⟨w.heap.size, 1, none⟩ = some (.int .i64 x) := Ft.out.c 1 rfl
                have g1 : wx21.frozen? ⟨w.heap.size, 1, none⟩ = false := Ft.out.f 1 rfl
                have y2 : wx21.cell? ⟨w.heap.size, 2, none⟩ = some (.int .i64 y) := Ft.out.c 2 rfl
                have g2 : wx21.frozen? ⟨w.heap.size, 2, none⟩ = false := Ft.out.f 2 rfl
                have y3 : wx21.cell? ⟨w.heap.size, 3, none⟩ = some (.int .i64 z) := Ft.out.c 3 rfl
                have g3 : wx21.frozen? ⟨w.heap.size, 3, none⟩ = false := Ft.out.f 3 rfl
                have y4 : wx21.cell? ⟨w.heap.size, 4, none⟩ = some (.int .i64 s) := Ft.out.c 4 rfl
                have g4 : wx21.frozen? ⟨w.heap.size, 4, none⟩ = false := Ft.out.f 4 rfl
                have y5 : wx21.cell? ⟨w.heap.size, 5, none⟩ = some (.int .i64 p) := Ft.out.c 5 rfl
                have g5 : wx21.frozen? ⟨w.heap.size, 5, none⟩ = false := Ft.out.f 5 rfl
                go_wp2_with (go_at_call 9; refine (num18_any _ _).mono ?_; rintro e wx ⟨rfl, hwx⟩; have hwy := hwx.symm; clear hwx; subst hwy)
                go_roundw
                case rel => exact ⟨k + 1, true, X, Y, Z, s1, p1, M, p1 - 1, by omega, by go_num, rfl, by rw [H1.out]; simp, HS, ((((((Ft.out.set 0 (.bool true)).set 1 (.int .i64 X)).set 2 (.int .i64 Y)).set 3 (.int .i64 Z)).set 4 (.int .i64 s1)).set 5 (.int .i64 p1)), ((((((FX.out.set (p := ⟨w.heap.size, 0, none⟩) Lt.out _).set (p := ⟨w.heap.size, 1, none⟩) Lt.out _).set (p := ⟨w.heap.size, 2, none⟩) Lt.out _).set (p := ⟨w.heap.size, 3, none⟩) Lt.out _).set (p := ⟨w.heap.size, 4, none⟩) Lt.out _).set (p := ⟨w.heap.size, 5, none⟩) Lt.out _)⟩
                case measure => simp [intOf]; omega
            · have g2 : decide (0 ≤ g) = false := by simpa using hg
              have H1 : Hid (p1 = M + 1) := h1
              clear h2 hg h1
              clear d1 d2
              go_upto_region 23 with fail
              clear qu0 qu1 qu2 qu3 qv0 qv1 qv2 ed hm
              have qu0 : wx2.cell? ⟨nu, 0, none⟩ = some (.bool true) := Fu.out.c 0 rfl
              have qu1 : wx2.cell? ⟨nu, 1, none⟩ = some (.int .i64 X) := Fu.out.c 1 rfl
              have qu2 : wx2.cell? ⟨nu, 2, none⟩ = some (.int .i64 Y) := Fu.out.c 2 rfl
              have qu3 : wx2.cell? ⟨nu, 3, none⟩ = some (.int .i64 Z) := Fu.out.c 3 rfl
              have qu4 : wx2.cell? ⟨nu, 4, none⟩ = some (.int .i64 s1) := Fu.out.c 4 rfl
              have qu5 : wx2.cell? ⟨nu, 5, none⟩ = some (.int .i64 p1) := Fu.out.c 5 rfl
              have qv0 : wx2.cell? ⟨nd, 0, none⟩ = some (.int .i64 X) := Fv.out.c 0 rfl
              have qv1 : wx2.cell? ⟨nd, 1, none⟩ = some (.int .i64 Y) := Fv.out.c 1 rfl
              have qv2 : wx2.cell? ⟨nd, 2, none⟩ = some (.int .i64 Z) := Fv.out.c 2 rfl
              go_upto_region 24 with (first | (go_at_call 8; refine (HU.out _).mono ?_; rintro e w3 ⟨rfl, x3⟩))
              have Ft : Hid (HV w3 w.heap.size [.bool on, .int .i64 x, .int .i64 y, .int .i64 z, .int .i64 s, .int .i64 p]) := Ft.out.ext x3
              have Fv : Hid (HV w3 nd [.int .i64 X, .int .i64 Y, .int .i64 Z]) := Fv.out.ext x3
              have Fu : Hid (HV w3 nu [.bool true, .int .i64 X, .int .i64 Y, .int .i64 Z, .int .i64 s1, .int .i64 p1]) := Fu.out.ext x3
              have FX : Hid (Ext w w3) := FX.out.trans x3
              clear qu0 qu1 qu2 qu3 qu4 qu5 qv0 qv1 qv2 x3 HU
              have lttx : w.heap.size < w3.heap.size := Ft.out.1
              have ltvx : nd < w3.heap.size := Fv.out.1
              have ltux : nu < w3.heap.size := Fu.out.1
              have Lx : Hid (w.heap.size ≤ w3.heap.size) := FX.out.size
              have Ft : Hid (HV (w3.alloc (.cells #[.bool true, .int .i64 X, .int .i64 Y, .int .i64 Z, .int .i64 s2, .int .i64 p2] 26)) w.heap.size [.bool on, .int .i64 x, .int .i64 y, .int .i64 z, .int .i64 s, .int .i64 p]) := Ft.out.alloc _
              have Fv : Hid (HV (w3.alloc (.cells #[.bool true, .int .i64 X, .int .i64 Y, .int .i64 Z, .int .i64 s2, .int .i64 p2] 26)) nd [.int .i64 X, .int .i64 Y, .int .i64 Z]) := Fv.out.alloc _
              have Fu : Hid (HV (w3.alloc (.cells #[.bool true, .int .i64 X, .int .i64 Y, .int .i64 Z, .int .i64 s2, .int .i64 p2] 26)) nu [.bool true, .int .i64 X, .int .i64 Y, .int .i64 Z, .int .i64 s1, .int .i64 p1]) := Fu.out.alloc _
              have Fx : Hid (HV (w3.alloc (.cells #[.bool true, .int .i64 X, .int .i64 Y, .int .i64 Z, .int .i64 s2, .int .i64 p2] 26)) w3.heap.size [.bool true, .int .i64 X, .int .i64 Y, .int .i64 Z, .int .i64 s2, .int .i64 p2]) := hv_at rfl
              have FX : Hid (Ext w (w3.alloc (.cells #[.bool true, .int .i64 X, .int .i64 Y, .int .i64 Z, .int .i64 s2, .int .i64 p2] 26))) := FX.out.alloc _
              generalize (w3.alloc (.cells #[.bool true, .int .i64 X, .int .i64 Y, .int .i64 Z, .int .i64 s2, .int .i64 p2] 26)) = wx21 at *
              generalize w3.heap.size = nx at *
              rcases H2 with rfl | ⟨hc2, hs⟩
              · have qu0 : wx21.cell? ⟨nu, 0, none⟩ = some (.bool true) := Fu.out.c 0 rfl
                have qu1 : wx21.cell? ⟨nu, 1, none⟩ = some (.int .i64 X) := Fu.out.c 1 rfl
                have qu2 : wx21.cell? ⟨nu, 2, none⟩ = some (.int .i64 Y) := Fu.out.c 2 rfl
                have qu3 : wx21.cell? ⟨nu, 3, none⟩ = some (.int .i64 Z) := Fu.out.c 3 rfl
                have qu4 : wx21.cell? ⟨nu, 4, none⟩ = some (.int .i64 s1) := Fu.out.c 4 rfl
                have qu5 : wx21.cell? ⟨nu, 5, none⟩ = some (.int .i64 p1) := Fu.out.c 5 rfl
                have qv0 : wx21.cell? ⟨nd, 0, none⟩ = some (.int .i64 X) := Fv.out.c 0 rfl
                have qv1 : wx21.cell? ⟨nd, 1, none⟩ = some (.int .i64 Y) := Fv.out.c 1 rfl
                have qv2 : wx21.cell? ⟨nd, 2, none⟩ = some (.int .i64 Z) := Fv.out.c 2 rfl
                have qx0 : wx21.cell? ⟨nx, 0, none⟩ = some (.bool true) := Fx.out.c 0 rfl
                have qx1 : wx21.cell? ⟨nx, 1, none⟩ = some (.int .i64 X) := Fx.out.c 1 rfl
                have qx2 : wx21.cell? ⟨nx, 2, none⟩ = some (.int .i64 Y) := Fx.out.c 2 rfl
                have qx3 : wx21.cell? ⟨nx, 3, none⟩ = some (.int .i64 Z) := Fx.out.c 3 rfl
                have y0 : wx21.cell? ⟨w.heap.size, 0, none⟩ = some (.bool on) := Ft.out.c 0 rfl
                have g0 : wx21.frozen? ⟨w.heap.size, 0, none⟩ = false := Ft.out.f 0 rfl
                have y1 : wx21.cell? ⟨w.heap.size, 1, none⟩ = some (.int .i64 x) := Ft.out.c 1 rfl
                have g1 : wx21.frozen? ⟨w.heap.size, 1, none⟩ = false := Ft.out.f 1 rfl
                have y2 : wx21.cell? ⟨w.heap.size, 2, none⟩ = some (.int .i64 y) := Ft.out.c 2 rfl
                have g2 : wx21.frozen? ⟨w.heap.size, 2, none⟩ = false := Ft.out.f 2 rfl
                have y3 : wx21.cell? ⟨w.heap.size, 3, none⟩ = some (.int .i64 z) := Ft.out.c 3 rfl
                have g3 : wx21.frozen? ⟨w.heap.size, 3, none⟩ = false := Ft.out.f 3 rfl
                have y4 : wx21.cell? ⟨w.heap.size, 4, none⟩ = some (.int .i64 s) := Ft.out.c 4 rfl
                have g4 : wx21.frozen? ⟨w.heap.size, 4, none⟩ = false := Ft.out.f 4 rfl
                have y5 : wx21.cell? ⟨w.heap.size, 5, none⟩ = some (.int .i64 p) := Ft.out.c 5 rfl
                have g5 : wx21.frozen? ⟨w.heap.size, 5, none⟩ = false := Ft.out.f 5 rfl
                go_wp2_with (go_at_call 9; refine (num18_any _ _).mono ?_; rintro e wx ⟨rfl, hwx⟩; have hwy := hwx.symm; clear hwx; subst hwy)
                go_roundw
                case rel => exact ⟨k + 1, true, X, Y, Z, s1, p1, M, p1 - 1, by omega, by go_num, rfl, by rw [H1.out]; simp, HS, ((((((Ft.out.set 0 (.bool true)).set 1 (.int .i64 X)).set 2 (.int .i64 Y)).set 3 (.int .i64 Z)).set 4 (.int .i64 s1)).set 5 (.int .i64 p1)), ((((((FX.out.set (p := ⟨w.heap.size, 0, none⟩) Lt.out _).set (p := ⟨w.heap.size, 1, none⟩) Lt.out _).set (p := ⟨w.heap.size, 2, none⟩) Lt.out _).set (p := ⟨w.heap.size, 3, none⟩) Lt.out _).set (p := ⟨w.heap.size, 4, none⟩) Lt.out _).set (p := ⟨w.heap.size, 5, none⟩) Lt.out _)⟩
                case measure => simp [intOf]; omega
              · have e1 : (c2 != 0) = true := by simp; omega
                have e2 : (s1 == 0) = false := by simp; omega
                clear hc2 hs
                have qu0 : wx21.cell? ⟨nu, 0, none⟩ = some (.bool true) := Fu.out.c 0 rfl
                have qu1 : wx21.cell? ⟨nu, 1, none⟩ = some (.int .i64 X) := Fu.out.c 1 rfl
                have qu2 : wx21.cell? ⟨nu, 2, none⟩ = some (.int .i64 Y) := Fu.out.c 2 rfl
                have qu3 : wx21.cell? ⟨nu, 3, none⟩ = some (.int .i64 Z) := Fu.out.c 3 rfl
                have qu4 : wx21.cell? ⟨nu, 4, none⟩ = some (.int .i64 s1) := Fu.out.c 4 rfl
                have qu5 : wx21.cell? ⟨nu, 5, none⟩ = some (.int .i64 p1) := Fu.out.c 5 rfl
                have qv0 : wx21.cell? ⟨nd, 0, none⟩ = some (.int .i64 X) := Fv.out.c 0 rfl
                have qv1 : wx21.cell? ⟨nd, 1, none⟩ = some (.int .i64 Y) := Fv.out.c 1 rfl
                have qv2 : wx21.cell? ⟨nd, 2, none⟩ = some (.int .i64 Z) := Fv.out.c 2 rfl
                have qx0 : wx21.cell? ⟨nx, 0, none⟩ = some (.bool true) := Fx.out.c 0 rfl
                have qx1 : wx21.cell? ⟨nx, 1, none⟩ = some (.int .i64 X) := Fx.out.c 1 rfl
                have qx2 : wx21.cell? ⟨nx, 2, none⟩ = some (.int .i64 Y) := Fx.out.c 2 rfl
                have qx3 : wx21.cell? ⟨nx, 3, none⟩ = some (.int .i64 Z) := Fx.out.c 3 rfl
                have y0 : wx21.cell? ⟨w.heap.size, 0, none⟩ = some (.bool on) := Ft.out.c 0 rfl
                have g0 : wx21.frozen? ⟨w.heap.size, 0, none⟩ = false := Ft.out.f 0 rfl
                have y1 : wx21.cell? ⟨w.heap.size, 1, none⟩ = some (.int .i64 x) := Ft.out.c 1 rfl
                have g1 : wx21.frozen? ⟨w.heap.size, 1, none⟩ = false := Ft.out.f 1 rfl
                have y2 : wx21.cell? ⟨w.heap.size, 2, none⟩ = some (.int .i64 y) := Ft.out.c 2 rfl
                have g2 : wx21.frozen? ⟨w.heap.size, 2, none⟩ = false := Ft.out.f 2 rfl
                have y3 : wx21.cell? ⟨w.heap.size, 3, none⟩ = some (.int .i64 z) := Ft.out.c 3 rfl
                have g3 : wx21.frozen? ⟨w.heap.size, 3, none⟩ = false := Ft.out.f 3 rfl
                have y4 : wx21.cell? ⟨w.heap.size, 4, none⟩ = some (.int .i64 s) := Ft.out.c 4 rfl
                have g4 : wx21.frozen? ⟨w.heap.size, 4, none⟩ = false := Ft.out.f 4 rfl
                have y5 : wx21.cell? ⟨w.heap.size, 5, none⟩ = some (.int .i64 p) := Ft.out.c 5 rfl
                have g5 : wx21.frozen? ⟨w.heap.size, 5, none⟩ = false := Ft.out.f 5 rfl
                go_wp2_with (go_at_call 9; refine (num18_any _ _).mono ?_; rintro e wx ⟨rfl, hwx⟩; have hwy := hwx.symm; clear hwx; subst hwy)
                go_roundw
                case rel => exact ⟨k + 1, true, X, Y, Z, s1, p1, M, p1 - 1, by omega, by go_num, rfl, by rw [H1.out]; simp, HS, ((((((Ft.out.set 0 (.bool true)).set 1 (.int .i64 X)).set 2 (.int .i64 Y)).set 3 (.int .i64 Z)).set 4 (.int .i64 s1)).set 5 (.int .i64 p1)), ((((((FX.out.set (p := ⟨w.heap.size, 0, none⟩) Lt.out _).set (p := ⟨w.heap.size, 1, none⟩) Lt.out _).set (p := ⟨w.heap.size, 2, none⟩) Lt.out _).set (p := ⟨w.heap.size, 3, none⟩) Lt.out _).set (p := ⟨w.heap.size, 4, none⟩) Lt.out _).set (p := ⟨w.heap.size, 5, none⟩) Lt.out _)⟩
                case measure => simp [intOf]; omega
          · have g1 : decide (300 < M - g) = false := by simp; omega
            have g2 : decide (g < 0) = false := by simp; omega
            have H1 : Hid (p1 = 0) := h1
            clear h2 h3 h1
            clear d1 d2
            go_upto_region 23 with fail
            clear qu0 qu1 qu2 qu3 qv0 qv1 qv2 ed hm
            have qu0 : wx2.cell? ⟨nu, 0, none⟩ = some (.bool true) := Fu.out.c 0 rfl
            have qu1 : wx2.cell? ⟨nu, 1, none⟩ = some (.int .i64 X) := Fu.out.c 1 rfl
            have qu2 : wx2.cell? ⟨nu, 2, none⟩ = some (.int .i64 Y) := Fu.out.c 2 rfl
            have qu3 : wx2.cell? ⟨nu, 3, none⟩ = some (.int .i64 Z) := Fu.out.c 3 rfl
            have qu4 : wx2.cell? ⟨nu, 4, none⟩ = some (.int .i64 s1) := Fu.out.c 4 rfl
            have qu5 : wx2.cell? ⟨nu, 5, none⟩ = some (.int .i64 p1) := Fu.out.c 5 rfl
            have qv0 : wx2.cell? ⟨nd, 0, none⟩ = some (.int .i64 X) := Fv.out.c 0 rfl
            have qv1 : wx2.cell? ⟨nd, 1, none⟩ = some (.int .i64 Y) := Fv.out.c 1 rfl
            have qv2 : wx2.cell? ⟨nd, 2, none⟩ = some (.int .i64 Z) := Fv.out.c 2 rfl
            go_upto_region 24 with (first | (go_at_call 8; refine (HU.out _).mono ?_; rintro e w3 ⟨rfl, x3⟩))
            have Ft : Hid (HV w3 w.heap.size [.bool on, .int .i64 x, .int .i64 y, .int .i64 z, .int .i64 s, .int .i64 p]) := Ft.out.ext x3
            have Fv : Hid (HV w3 nd [.int .i64 X, .int .i64 Y, .int .i64 Z]) := Fv.out.ext x3
            have Fu : Hid (HV w3 nu [.bool true, .int .i64 X, .int .i64 Y, .int .i64 Z, .int .i64 s1, .int .i64 p1]) := Fu.out.ext x3
            have FX : Hid (Ext w w3) := FX.out.trans x3
            clear qu0 qu1 qu2 qu3 qu4 qu5 qv0 qv1 qv2 x3 HU
            have lttx : w.heap.size < w3.heap.size := Ft.out.1
            have ltvx : nd < w3.heap.size := Fv.out.1
            have ltux : nu < w3.heap.size := Fu.out.1
            have Lx : Hid (w.heap.size ≤ w3.heap.size) := FX.out.size
            have Ft : Hid (HV (w3.alloc (.cells #[.bool true, .int .i64 X, .int .i64 Y, .int .i64 Z, .int .i64 s2, .int .i64 p2] 26)) w.heap.size [.bool on, .int .i64 x, .int .i64 y, .int .i64 z, .int .i64 s, .int .i64 p]) := Ft.out.alloc _
            have Fv : Hid (HV (w3.alloc (.cells #[.bool true, .int .i64 X, .int .i64 Y, .int .i64 Z, .int .i64 s2, .int .i64 p2] 26)) nd [.int .i64 X, .int .i64 Y, .int .i64 Z]) := Fv.out.alloc _
            have Fu : Hid (HV (w3.alloc (.cells #[.bool true, .int .i64 X, .int .i64 Y, .int .i64 Z, .int .i64 s2, .int .i64 p2] 26)) nu [.bool true, .int .i64 X, .int .i64 Y, .int .i64 Z, .int .i64 s1, .int .i64 p1]) := Fu.out.alloc _
            have Fx : Hid (HV (w3.alloc (.cells #[.bool true, .int .i64 X, .int .i64 Y, .int .i64 Z, .int .i64 s2, .int .i64 p2] 26)) w3.heap.size [.bool true, .int .i64 X, .int .i64 Y, .int .i64 Z, .int .i64 s2, .int .i64 p2]) := hv_at rfl
            have FX : Hid (Ext w (w3.alloc (.cells #[.bool true, .int .i64 X, .int .i64 Y, .int .i64 Z, .int .i64 s2, .int .i64 p2] 26))) := FX.out.alloc _
            generalize (w3.alloc (.cells #[.bool true, .int .i64 X, .int .i64 Y, .int .i64 Z, .int .i64 s2, .int .i64 p2] 26)) = wx21 at *
            generalize w3.heap.size = nx at *
            rcases H2 with rfl | ⟨hc2, hs⟩
            · have qu0 : wx21.cell? ⟨nu, 0, none⟩ = some (.bool true) := Fu.out.c 0 rfl
              have qu1 : wx21.cell? ⟨nu, 1, none⟩ = some (.int .i64 X) := Fu.out.c 1 rfl
              have qu2 : wx21.cell? ⟨nu, 2, none⟩ = some (.int .i64 Y) := Fu.out.c 2 rfl
              have qu3 : wx21.cell? ⟨nu, 3, none⟩ = some (.int .i64 Z) := Fu.out.c 3 rfl
              have qu4 : wx21.cell? ⟨nu, 4, none⟩ = some (.int .i64 s1) := Fu.out.c 4 rfl
              have qu5 : wx21.cell? ⟨nu, 5, none⟩ = some (.int .i64 p1) := Fu.out.c 5 rfl
              have qv0 : wx21.cell? ⟨nd, 0, none⟩ = some (.int .i64 X) := Fv.out.c 0 rfl
              have qv1 : wx21.cell? ⟨nd, 1, none⟩ = some (.int .i64 Y) := Fv.out.c 1 rfl
              have qv2 : wx21.cell? ⟨nd, 2, none⟩ = some (.int .i64 Z) := Fv.out.c 2 rfl
              have qx0 : wx21.cell? ⟨nx, 0, none⟩ = some (.bool true) := Fx.out.c 0 rfl
              have qx1 : wx21.cell? ⟨nx, 1, none⟩ = some (.int .i64 X) := Fx.out.c 1 rfl
              have qx2 : wx21.cell? ⟨nx, 2, none⟩ = some (.int .i64 Y) := Fx.out.c 2 rfl
              have qx3 : wx21.cell? ⟨nx, 3, none⟩ = some (.int .i64 Z) := Fx.out.c 3 rfl
              have y0 : wx21.cell? ⟨w.heap.size, 0, none⟩ = some (.bool on) := Ft.out.c 0 rfl
              have g0 : wx21.frozen? ⟨w.heap.size, 0, none⟩ = false := Ft.out.f 0 rfl
              have y1 : wx21.cell? ⟨w.heap.size, 1, none⟩ = some (.int .i64 x) := Ft.out.c 1 rfl
              have g1 : wx21.frozen? ⟨w.heap.size, 1, none⟩ = false := Ft.out.f 1 rfl
              have y2 : wx21.cell? ⟨w.heap.size, 2, none⟩ = some (.int .i64 y) := Ft.out.c 2 rfl
              have g2 : wx21.frozen? ⟨w.heap.size, 2, none⟩ = false := Ft.out.f 2 rfl
              have y3 : wx21.cell? ⟨w.heap.size, 3, none⟩ = some (.int .i64 z) := Ft.out.c 3 rfl
              have g3 : wx21.frozen? ⟨w.heap.size, 3, none⟩ = false := Ft.out.f 3 rfl
              have y4 : wx21.cell? ⟨w.heap.size, 4, none⟩ = some (.int .i64 s) := Ft.out.c 4 rfl
              have g4 : wx21.frozen? ⟨w.heap.size, 4, none⟩ = false := Ft.out.f 4 rfl
              have y5 : wx21.cell? ⟨w.heap.size, 5, none⟩ = some (.int .i64 p) := Ft.out.c 5 rfl
              have g5 : wx21.frozen? ⟨w.heap.size, 5, none⟩ = false := Ft.out.f 5 rfl
              go_wp2_with (go_at_call 9; refine (num18_any _ _).mono ?_; rintro e wx ⟨rfl, hwx⟩; have hwy := hwx.symm; clear hwx; subst hwy)
              go_roundw
              case rel => exact ⟨k + 1, true, X, Y, Z, s1, p1, M, p1 - 1, by omega, by go_num, rfl, by rw [H1.out]; simp, HS, ((((((Ft.out.set 0 (.bool true)).set 1 (.int .i64 X)).set 2 (.int .i64 Y)).set 3 (.int .i64 Z)).set 4 (.int .i64 s1)).set 5 (.int .i64 p1)), ((((((FX.out.set (p := ⟨w.heap.size, 0, none⟩) Lt.out _).set (p := ⟨w.heap.size, 1, none⟩) Lt.out _).set (p := ⟨w.heap.size, 2, none⟩) Lt.out _).set (p := ⟨w.heap.size, 3, none⟩) Lt.out _).set (p := ⟨w.heap.size, 4, none⟩) Lt.out _).set (p := ⟨w.heap.size, 5, none⟩) Lt.out _)⟩
              case measure => simp [intOf]; omega
            · have e1 : (c2 != 0) = true := by simp; omega
              have e2 : (s1 == 0) = false := by simp; omega
              clear hc2 hs
              have qu0 : wx21.cell? ⟨nu, 0, none⟩ = some (.bool true) := Fu.out.c 0 rfl
              have qu1 : wx21.cell? ⟨nu, 1, none⟩ = some (.int .i64 X) := Fu.out.c 1 rfl
              have qu2 : wx21.cell? ⟨nu, 2, none⟩ = some (.int .i64 Y) := Fu.out.c 2 rfl
              have qu3 : wx21.cell? ⟨nu, 3, none⟩ = some (.int .i64 Z) := Fu.out.c 3 rfl
              have qu4 : wx21.cell? ⟨nu, 4, none⟩ = some (.int .i64 s1) := Fu.out.c 4 rfl
              have qu5 : wx21.cell? ⟨nu, 5, none⟩ = some (.int .i64 p1) := Fu.out.c 5 rfl
              have qv0 : wx21.cell? ⟨nd, 0, none⟩ = some (.int .i64 X) := Fv.out.c 0 rfl
              have qv1 : wx21.cell? ⟨nd, 1, none⟩ = some (.int .i64 Y) := Fv.out.c 1 rfl
              have qv2 : wx21.cell? ⟨nd, 2, none⟩ = some (.int .i64 Z) := Fv.out.c 2 rfl
              have qx0 : wx21.cell? ⟨nx, 0, none⟩ = some (.bool true) := Fx.out.c 0 rfl
              have qx1 : wx21.cell? ⟨nx, 1, none⟩ = some (.int .i64 X) := Fx.out.c 1 rfl
              have qx2 : wx21.cell? ⟨nx, 2, none⟩ = some (.int .i64 Y) := Fx.out.c 2 rfl
              have qx3 : wx21.cell? ⟨nx, 3, none⟩ = some (.int .i64 Z) := Fx.out.c 3 rfl
              have y0 : wx21.cell? ⟨w.heap.size, 0, none⟩ = some (.bool on) := Ft.out.c 0 rfl
              have g0 : wx21.frozen? ⟨w.heap.size, 0, none⟩ = false := Ft.out.f 0 rfl
              have y1 : wx21.cell? ⟨w.heap.size, 1, none⟩ = some (.int .i64 x) := Ft.out.c 1 rfl
              have g1 : wx21.frozen? ⟨w.heap.size, 1, none⟩ = false := Ft.out.f 1 rfl
              have y2 : wx21.cell? ⟨w.heap.size, 2, none⟩ = some (.int .i64 y) := Ft.out.c 2 rfl
              have g2 : wx21.frozen? ⟨w.heap.size, 2, none⟩ = false := Ft.out.f 2 rfl
              have y3 : wx21.cell? ⟨w.heap.size, 3, none⟩ = some (.int .i64 z) := Ft.out.c 3 rfl
              have g3 : wx21.frozen? ⟨w.heap.size, 3, none⟩ = false := Ft.out.f 3 rfl
              have y4 : wx21.cell? ⟨w.heap.size, 4, none⟩ = some (.int .i64 s) := Ft.out.c 4 rfl
              have g4 : wx21.frozen? ⟨w.heap.size, 4, none⟩ = false := Ft.out.f 4 rfl
              have y5 : wx21.cell? ⟨w.heap.size, 5, none⟩ = some (.int .i64 p) := Ft.out.c 5 rfl
              have g5 : wx21.frozen? ⟨w.heap.size, 5, none⟩ = false := Ft.out.f 5 rfl
              go_wp2_with (go_at_call 9; refine (num18_any _ _).mono ?_; rintro e wx ⟨rfl, hwx⟩; have hwy := hwx.symm; clear hwx; subst hwy)
              go_roundw
              case rel => exact ⟨k + 1, true, X, Y, Z, s1, p1, M, p1 - 1, by omega, by go_num, rfl, by rw [H1.out]; simp, HS, ((((((Ft.out.set 0 (.bool true)).set 1 (.int .i64 X)).set 2 (.int .i64 Y)).set 3 (.int .i64 Z)).set 4 (.int .i64 s1)).set 5 (.int .i64 p1)), ((((((FX.out.set (p := ⟨w.heap.size, 0, none⟩) Lt.out _).set (p := ⟨w.heap.size, 1, none⟩) Lt.out _).set (p := ⟨w.heap.size, 2, none⟩) Lt.out _).set (p := ⟨w.heap.size, 3, none⟩) Lt.out _).set (p := ⟨w.heap.size, 4, none⟩) Lt.out _).set (p := ⟨w.heap.size, 5, none⟩) Lt.out _)⟩
              case measure => simp [intOf]; omega
      · go_wp2_with fail
        refine (wakes18_any _).mono ?_
        rintro e w1 ⟨rfl, x1⟩
        have E1 : Ext w w1 := FX.out.trans x1
        go_wp2_with fail
        go_ret
        exact ⟨rfl, E1⟩
    · have hk' : k = len := by omega
      subst hk'
      go_wp2_with fail
      refine (wakes18_any _).mono ?_
      rintro e w1 ⟨rfl, x1⟩
      have E1 : Ext w w1 := FX.out.trans x1
      go_wp2_with fail
      go_ret
      exact ⟨rfl, E1⟩
set_option maxRecDepth 20000 in
set_option maxHeartbeats 4000000 in
theorem tapdoubles_none (a : Option Addr) (cap : Nat) (w : World) :
    Calls Try.prog 5 #[.slice a 0 cap] w fun e w' => e = .returned (.bool true) ∧ Ext w w' := by
  have FX : Hid (Ext w (w.alloc (.cells #[.bool false, .int .i64 0, .int .i64 0, .int .i64 0, .int .i64 0, .int .i64 0] 26))) := (Ext.refl _).alloc _
  go_enter Try.func5, Try.ntmps5
  go_upto_region 2 with fail
  generalize (w.alloc (.cells #[.bool false, .int .i64 0, .int .i64 0, .int .i64 0, .int .i64 0, .int .i64 0] 26)) = wa at *
  go_wp2_with fail
  go_loopw [6] (fun i wr => i = .int .i64 0 ∧ Hid (Ext w wr)) (fun _ _ => 0)
  case atStart => exact ⟨rfl, FX⟩
  case round =>
    clear FX
    obtain ⟨rfl, FX⟩ := hrel
    go_wp2_with fail
    refine (wakes18_any _).mono ?_
    rintro e w1 ⟨rfl, x1⟩
    have E1 : Ext w w1 := FX.out.trans x1
    go_wp2_with fail
    go_ret
    exact ⟨rfl, E1⟩
end Go.Proofs.Ytojcndgoihkfnaa
