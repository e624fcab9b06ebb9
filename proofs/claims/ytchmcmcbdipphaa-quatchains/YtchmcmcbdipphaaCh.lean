/- QuatChains. -/
import Derived.Test.YtchmcmcbdipphaaC1
import Derived.Deep.RegionHeld3
import Derived.Deep.DeepCutAuto
namespace Go.Proofs.Ytchmcmcbdipphaa
open Go.RowKit Go.Shelf

theorem H4.set4 {w : World} {b : Nat} {v0 v1 v2 v3 : Value} (h : H4 w b v0 v1 v2 v3) (y0 y1 y2 y3 : Value) : H4 ((((w.setCell ⟨b, 0, none⟩ y0).setCell ⟨b, 1, none⟩ y1).setCell ⟨b, 2, none⟩ y2).setCell ⟨b, 3, none⟩ y3) b y0 y1 y2 y3 := by
  obtain ⟨c0, c1, c2, c3, f0, f1, f2, f3, hb⟩ := h
  refine ⟨?_, ?_, ?_, ?_, ?_, ?_, ?_, ?_, ?_⟩ <;> simp [go_sem, c0, c1, c2, c3, f0, f1, f2, f3, hb]
theorem ext_new4 {X w' : World} {v0 v1 v2 v3 : Value} {T : TypeId} (h : Ext (X.alloc (.cells #[v0, v1, v2, v3] T)) w') : Hid (H4 w' X.heap.size v0 v1 v2 v3) := (h4_at rfl).ext h
theorem ext_new4d {X w' : World} {v0 v1 v2 v3 : Value} {T : TypeId} (h : Ext (X.alloc (.cells #[v0, v1, v2, v3] T)).drew w') : Hid (H4 w' X.heap.size v0 v1 v2 v3) := (H4.drew (h4_at rfl)).ext h
/-- a variable of four numbers, behind its region -/
def Part4 (w wx : World) (g : Nat) (z0 z1 z2 z3 : Int) : Prop := H4 wx g (.int .i64 z0) (.int .i64 z1) (.int .i64 z2) (.int .i64 z3) ∧ Ext w wx ∧ w.heap.size ≤ g
theorem part4_a {w wR : World} {z0 z1 z2 z3 : Int} {T : TypeId} (y : Ext w wR) : Hid (Part4 w (wR.alloc (.cells #[.int .i64 z0, .int .i64 z1, .int .i64 z2, .int .i64 z3] T)) wR.heap.size z0 z1 z2 z3) :=
  ⟨h4_at rfl, y.alloc _, y.size⟩
theorem part4_b {w wR : World} {g : Nat} {v0 v1 v2 v3 : Value} {z0 z1 z2 z3 : Int} (hN : Hid (H4 wR g v0 v1 v2 v3)) (y : Ext w wR) (hg : w.heap.size ≤ g) :
    Hid (Part4 w ((((wR.setCell ⟨g, 0, none⟩ (.int .i64 z0)).setCell ⟨g, 1, none⟩ (.int .i64 z1)).setCell ⟨g, 2, none⟩ (.int .i64 z2)).setCell ⟨g, 3, none⟩ (.int .i64 z3)) g z0 z1 z2 z3) :=
  ⟨hN.out.set4 _ _ _ _, (((y.set hg _).set hg _).set hg _).set hg _, hg⟩
theorem unit_tot (a b c d : Int) (h : ok4 a b c d = true) : ∃ A0 A1 A2 A3 ee : Int, (∀ w', Calls Try.prog 22 #[.agg #[.int .i64 a, .int .i64 b, .int .i64 c, .int .i64 d]] w' fun e w'' => e = .returned (.tuple #[.agg #[.int .i64 A0, .int .i64 A1, .int .i64 A2, .int .i64 A3], .int .i64 ee]) ∧ Ext w' w'') := by
  by_cases hq : a = 0 ∧ b = 0 ∧ c = 0 ∧ d = 0
  · obtain ⟨rfl, rfl, rfl, rfl⟩ := hq
    exact ⟨0, 0, 0, 0, 3, fun w' => qUnit_zero w'⟩
  · obtain ⟨A0, A1, A2, A3, u, _⟩ := unit_told a b c d h hq
    exact ⟨A0, A1, A2, A3, 0, u⟩
theorem brt_ok4 (a b c d : Int) : ok4 (brt 1073741824 a) (brt 1073741824 b) (brt 1073741824 c) (brt 1073741824 d) = true := by
  have h0 := brt_bounds 1073741824 a (by omega); have h1 := brt_bounds 1073741824 b (by omega); have h2 := brt_bounds 1073741824 c (by omega); have h3 := brt_bounds 1073741824 d (by omega)
  exact ok4_abs (by omega) (by omega) (by omega) (by omega)

theorem chains_cases (a b c d x y z t u v s : Int) (h : ok4 a b c d = true) (k : ok4 x y z t = true) (hu : -1073741824 ≤ u ∧ u ≤ 1073741824) (hv : -1073741824 ≤ v ∧ v ≤ 1073741824) (hs : -1073741824 ≤ s ∧ s ≤ 1073741824) :
    ∃ A0 A1 A2 A3 B0 B1 B2 B3 e1 e2 : Int, (∀ w', Calls Try.prog 22 #[.agg #[.int .i64 a, .int .i64 b, .int .i64 c, .int .i64 d]] w' fun e w'' => e = .returned (.tuple #[.agg #[.int .i64 A0, .int .i64 A1, .int .i64 A2, .int .i64 A3], .int .i64 e1]) ∧ Ext w' w'') ∧ (∀ w', Calls Try.prog 22 #[.agg #[.int .i64 x, .int .i64 y, .int .i64 z, .int .i64 t]] w' fun e w'' => e = .returned (.tuple #[.agg #[.int .i64 B0, .int .i64 B1, .int .i64 B2, .int .i64 B3], .int .i64 e2]) ∧ Ext w' w'') ∧
    ((e1 != 0) = true ∨ e1 = 0 ∧ (e2 != 0) = true ∨ e1 = 0 ∧ e2 = 0 ∧ ∃ C0 C1 C2 C3 X0 X1 X2 Y0 Y1 Y2 T0 T1 T2 U0 U1 U2 : Int, (∀ w', Calls Try.prog 8 #[.agg #[.int .i64 A0, .int .i64 A1, .int .i64 A2, .int .i64 A3], .agg #[.int .i64 B0, .int .i64 B1, .int .i64 B2, .int .i64 B3]] w' fun e w'' => e = .returned (.tuple #[.agg #[.int .i64 C0, .int .i64 C1, .int .i64 C2, .int .i64 C3], .int .i64 0]) ∧ Ext w' w'') ∧
    (∀ w', Calls Try.prog 16 #[.agg #[.int .i64 C0, .int .i64 C1, .int .i64 C2, .int .i64 C3], .agg #[.int .i64 u, .int .i64 v, .int .i64 s]] w' fun e w'' => e = .returned (.tuple #[.agg #[.int .i64 X0, .int .i64 X1, .int .i64 X2], .int .i64 0]) ∧ Ext w' w'') ∧ (∀ w', Calls Try.prog 16 #[.agg #[.int .i64 B0, .int .i64 B1, .int .i64 B2, .int .i64 B3], .agg #[.int .i64 u, .int .i64 v, .int .i64 s]] w' fun e w'' => e = .returned (.tuple #[.agg #[.int .i64 Y0, .int .i64 Y1, .int .i64 Y2], .int .i64 0]) ∧ Ext w' w'') ∧ (∀ w', Calls Try.prog 16 #[.agg #[.int .i64 A0, .int .i64 A1, .int .i64 A2, .int .i64 A3], .agg #[.int .i64 Y0, .int .i64 Y1, .int .i64 Y2]] w' fun e w'' => e = .returned (.tuple #[.agg #[.int .i64 T0, .int .i64 T1, .int .i64 T2], .int .i64 0]) ∧ Ext w' w'') ∧
    (∀ w', Calls Try.prog 12 #[.agg #[.int .i64 A0, .int .i64 A1, .int .i64 A2, .int .i64 A3]] w' fun e w'' => e = .returned (.tuple #[.agg #[.int .i64 A0, .int .i64 (-A1), .int .i64 (-A2), .int .i64 (-A3)], .int .i64 0]) ∧ Ext w' w'') ∧ (∀ w', Calls Try.prog 16 #[.agg #[.int .i64 A0, .int .i64 (-A1), .int .i64 (-A2), .int .i64 (-A3)], .agg #[.int .i64 u, .int .i64 v, .int .i64 s]] w' fun e w'' => e = .returned (.tuple #[.agg #[.int .i64 U0, .int .i64 U1, .int .i64 U2], .int .i64 0]) ∧ Ext w' w'') ∧ (∀ w', Calls Try.prog 15 #[.agg #[.int .i64 A0, .int .i64 A1, .int .i64 A2, .int .i64 A3], .agg #[.int .i64 u, .int .i64 v, .int .i64 s]] w' fun e w'' => e = .returned (.tuple #[.agg #[.int .i64 U0, .int .i64 U1, .int .i64 U2], .int .i64 0]) ∧ Ext w' w'') ∧
    (∀ w', Calls Try.prog 19 #[.agg #[.int .i64 X0, .int .i64 X1, .int .i64 X2], .agg #[.int .i64 T0, .int .i64 T1, .int .i64 T2], .int .i64 16] w' fun e w'' => e = .returned (.bool true) ∧ Ext w' w'')) := by
  by_cases hq : a = 0 ∧ b = 0 ∧ c = 0 ∧ d = 0
  · obtain ⟨rfl, rfl, rfl, rfl⟩ := hq
    obtain ⟨B0, B1, B2, B3, e2, uB⟩ := unit_tot x y z t k
    exact ⟨0, 0, 0, 0, B0, B1, B2, B3, 3, e2, fun w' => qUnit_zero w', uB, Or.inl rfl⟩
  · by_cases kq : x = 0 ∧ y = 0 ∧ z = 0 ∧ t = 0
    · obtain ⟨rfl, rfl, rfl, rfl⟩ := kq
      obtain ⟨A0, A1, A2, A3, uA, _⟩ := unit_told a b c d h hq
      exact ⟨A0, A1, A2, A3, 0, 0, 0, 0, 0, 3, uA, fun w' => qUnit_zero w', Or.inr (Or.inl ⟨rfl, rfl⟩)⟩
    · obtain ⟨A0, A1, A2, A3, B0, B1, B2, B3, C0, C1, C2, C3, X0, X1, X2, Y0, Y1, Y2, T0, T1, T2, U0, U1, U2, k1, k2, kr⟩ := chains_told a b c d x y z t u v s h k hq kq hu hv hs
      exact ⟨A0, A1, A2, A3, B0, B1, B2, B3, 0, 0, k1, k2, Or.inr (Or.inr ⟨rfl, rfl, C0, C1, C2, C3, X0, X1, X2, Y0, Y1, Y2, T0, T1, T2, U0, U1, U2, kr⟩)⟩
set_option maxRecDepth 20000 in
set_option maxHeartbeats 8000000 in
theorem chains_any (b off len cap : Nat) (Z : Nat → Nat → Int) (w : World) (hl : len ≤ maxLen) (hc : Twos4 w b off len Z) :
    Calls Try.prog 7 #[.slice (some ⟨b, off, none⟩) len cap] w fun e w' => e = .returned (.bool true) ∧ Ext w w' := by
  have HN : Hid (∀ v w', Calls Try.prog 13 #[.int .i64 v] w' fun e w'' => e = .returned (.int .i64 v) ∧ w'' = w') := num4_any
  have HW : Hid (∀ w', Calls Try.prog 14 #[] w' fun e w'' => e = .returned (.bool true) ∧ Ext w' w'') := wakes4_any
  have hl' : len ≤ 9223372036854775807 := by unfold maxLen at hl; omega
  clear hl
  go_enter Try.func7, Try.ntmps7
  go_wp2_with fail
  go_loopw [3] (fun i wr => ∃ k : Nat, k ≤ len ∧ i = .int .i64 k ∧ Ext w wr) (fun i _ => len - (intOf i).toNat)
  case atStart => exact ⟨0, Nat.zero_le _, rfl, Ext.refl _⟩
  case round =>
    obtain ⟨k, hk, rfl, hx⟩ := hrel
    by_cases hlt : k < len
    · by_cases h20 : k < 12
      · have RW := (hc.ext hx).row hlt
        have BD : Hid (∀ j, j < 14 → -9223372036854775808 ≤ Z k j ∧ Z k j ≤ 9223372036854775807) := fun j hj => (hc k hlt j hj).2
        have bd : Hid _ := (⟨BD.out 0 (by omega), BD.out 1 (by omega), BD.out 2 (by omega), BD.out 3 (by omega), BD.out 4 (by omega), BD.out 5 (by omega), BD.out 6 (by omega), BD.out 7 (by omega), BD.out 8 (by omega), BD.out 9 (by omega), BD.out 10 (by omega), BD.out 11 (by omega), BD.out 12 (by omega), BD.out 13 (by omega)⟩ : (-9223372036854775808 ≤ Z k 0 ∧ Z k 0 ≤ 9223372036854775807) ∧ (-9223372036854775808 ≤ Z k 1 ∧ Z k 1 ≤ 9223372036854775807) ∧ (-9223372036854775808 ≤ Z k 2 ∧ Z k 2 ≤ 9223372036854775807) ∧ (-9223372036854775808 ≤ Z k 3 ∧ Z k 3 ≤ 9223372036854775807) ∧ (-9223372036854775808 ≤ Z k 4 ∧ Z k 4 ≤ 9223372036854775807) ∧ (-9223372036854775808 ≤ Z k 5 ∧ Z k 5 ≤ 9223372036854775807) ∧ (-9223372036854775808 ≤ Z k 6 ∧ Z k 6 ≤ 9223372036854775807) ∧ (-9223372036854775808 ≤ Z k 7 ∧ Z k 7 ≤ 9223372036854775807) ∧ (-9223372036854775808 ≤ Z k 8 ∧ Z k 8 ≤ 9223372036854775807) ∧ (-9223372036854775808 ≤ Z k 9 ∧ Z k 9 ≤ 9223372036854775807) ∧ (-9223372036854775808 ≤ Z k 10 ∧ Z k 10 ≤ 9223372036854775807) ∧ (-9223372036854775808 ≤ Z k 11 ∧ Z k 11 ≤ 9223372036854775807) ∧ (-9223372036854775808 ≤ Z k 12 ∧ Z k 12 ≤ 9223372036854775807) ∧ (-9223372036854775808 ≤ Z k 13 ∧ Z k 13 ≤ 9223372036854775807))
        clear BD
        have hlt' : (k : Int) < (len : Int) := by omega
        generalize Z k 0 = a at *
        generalize Z k 1 = b' at *
        generalize Z k 2 = c at *
        generalize Z k 3 = d at *
        generalize Z k 4 = q0 at *
        generalize Z k 5 = q1 at *
        generalize Z k 6 = q2 at *
        generalize Z k 7 = q3 at *
        generalize Z k 8 = x at *
        generalize Z k 9 = y at *
        generalize Z k 10 = z at *
        generalize Z k 11 = u0 at *
        generalize Z k 12 = u1 at *
        generalize Z k 13 = u2 at *
        obtain ⟨z0, z1, z2, z3, z4, z5, z6, z7, z8, z9, z10, z11, z12, z13⟩ := RW
        go_upto_region 5 with fail
        clear z0 z1 z2 z3 z4 z5 z6 z7 z8 z9 z10 z11 z12 z13
        have XB : Ext w (wr.alloc (.cells #[.int .i64 a, .int .i64 b', .int .i64 c, .int .i64 d, .int .i64 q0, .int .i64 q1, .int .i64 q2, .int .i64 q3, .int .i64 x, .int .i64 y, .int .i64 z, .int .i64 u0, .int .i64 u1, .int .i64 u2] 28)) := hx.alloc _
        have PB : Hid (P14 (wr.alloc (.cells #[.int .i64 a, .int .i64 b', .int .i64 c, .int .i64 d, .int .i64 q0, .int .i64 q1, .int .i64 q2, .int .i64 q3, .int .i64 x, .int .i64 y, .int .i64 z, .int .i64 u0, .int .i64 u1, .int .i64 u2] 28)) wr.heap.size a b' c d q0 q1 q2 q3 x y z u0 u1 u2) := p14_at rfl
        have HBa : Hid (∀ w', Calls Try.prog 17 #[.int .i64 a, .int .i64 1073741824] w' fun e w'' => e = .returned (.int .i64 (brt 1073741824 a)) ∧ w'' = w') := fun w' => brought_1073741824 a w'
        have HBb : Hid (∀ w', Calls Try.prog 17 #[.int .i64 b', .int .i64 1073741824] w' fun e w'' => e = .returned (.int .i64 (brt 1073741824 b')) ∧ w'' = w') := fun w' => brought_1073741824 b' w'
        have HBc : Hid (∀ w', Calls Try.prog 17 #[.int .i64 c, .int .i64 1073741824] w' fun e w'' => e = .returned (.int .i64 (brt 1073741824 c)) ∧ w'' = w') := fun w' => brought_1073741824 c w'
        have HBd : Hid (∀ w', Calls Try.prog 17 #[.int .i64 d, .int .i64 1073741824] w' fun e w'' => e = .returned (.int .i64 (brt 1073741824 d)) ∧ w'' = w') := fun w' => brought_1073741824 d w'
        have HBq0 : Hid (∀ w', Calls Try.prog 17 #[.int .i64 q0, .int .i64 1073741824] w' fun e w'' => e = .returned (.int .i64 (brt 1073741824 q0)) ∧ w'' = w') := fun w' => brought_1073741824 q0 w'
        have HBq1 : Hid (∀ w', Calls Try.prog 17 #[.int .i64 q1, .int .i64 1073741824] w' fun e w'' => e = .returned (.int .i64 (brt 1073741824 q1)) ∧ w'' = w') := fun w' => brought_1073741824 q1 w'
        have HBq2 : Hid (∀ w', Calls Try.prog 17 #[.int .i64 q2, .int .i64 1073741824] w' fun e w'' => e = .returned (.int .i64 (brt 1073741824 q2)) ∧ w'' = w') := fun w' => brought_1073741824 q2 w'
        have HBq3 : Hid (∀ w', Calls Try.prog 17 #[.int .i64 q3, .int .i64 1073741824] w' fun e w'' => e = .returned (.int .i64 (brt 1073741824 q3)) ∧ w'' = w') := fun w' => brought_1073741824 q3 w'
        have HVc : Hid (∀ w', Calls Try.prog 18 #[.agg #[.int .i64 x, .int .i64 y, .int .i64 z], .int .i64 1073741824] w' fun e w'' => e = .returned (.agg #[.int .i64 (brt 1073741824 x), .int .i64 (brt 1073741824 y), .int .i64 (brt 1073741824 z)]) ∧ Ext w' w'') := fun w' => brvec_1073741824 x y z w'
        have okP := brt_ok4 a b' c d
        have okQ := brt_ok4 q0 q1 q2 q3
        have bV0 := brt_bounds 1073741824 x (by omega)
        have bV1 := brt_bounds 1073741824 y (by omega)
        have bV2 := brt_bounds 1073741824 z (by omega)
        generalize brt 1073741824 a = ra at *
        generalize brt 1073741824 b' = rb at *
        generalize brt 1073741824 c = rc at *
        generalize brt 1073741824 d = rd at *
        generalize brt 1073741824 q0 = rq0 at *
        generalize brt 1073741824 q1 = rq1 at *
        generalize brt 1073741824 q2 = rq2 at *
        generalize brt 1073741824 q3 = rq3 at *
        generalize brt 1073741824 x = ru at *
        generalize brt 1073741824 y = rv at *
        generalize brt 1073741824 z = rs at *
        generalize (wr.alloc (.cells #[.int .i64 a, .int .i64 b', .int .i64 c, .int .i64 d, .int .i64 q0, .int .i64 q1, .int .i64 q2, .int .i64 q3, .int .i64 x, .int .i64 y, .int .i64 z, .int .i64 u0, .int .i64 u1, .int .i64 u2] 28)) = wB at *
        obtain ⟨A0, A1, A2, A3, B0, B1, B2, B3, e1, e2, uA, uB, dd⟩ := chains_cases ra rb rc rd rq0 rq1 rq2 rq3 ru rv rs okP okQ bV0 bV1 bV2
        have K1 : Hid _ := uA
        have K2 : Hid _ := uB
        have DD : Hid _ := dd
        clear uA uB dd okP okQ bV0 bV1 bV2
        obtain ⟨cp0, cp1, cp2, cp3, cp4, cp5, cp6, cp7, cp8, cp9, cp10, cp11, cp12, cp13, cp14⟩ := PB.out
        have nBa := Nat.ne_of_lt cp14
        have nBb := (Nat.ne_of_lt cp14).symm
        go_cut [5, 6] (fun sa sb wx => ∃ ga, sa = .pointer (some ⟨ga, 0, none⟩) ∧ sb = .int .i64 e1 ∧ Hid (Part4 wB wx ga A0 A1 A2 A3))
        case first =>
          try clear HN
          try clear HW
          try clear HBq0
          try clear HBq1
          try clear HBq2
          try clear HBq3
          try clear HVc
          try clear K2
          try clear DD
          try clear bd
          try clear hc
          try clear hl'
          try clear hlt
          try clear h20
          try clear hlt'
          try clear hk
          try clear cp4
          try clear cp5
          try clear cp6
          try clear cp7
          try clear cp8
          try clear cp9
          try clear cp10
          try clear cp11
          try clear cp12
          try clear cp13
          go_region_held3 (fun w' => w'.cell? ⟨wr.heap.size, 0, none⟩ = some (.int .i64 a) ∧ w'.cell? ⟨wr.heap.size, 1, none⟩ = some (.int .i64 b') ∧ w'.cell? ⟨wr.heap.size, 2, none⟩ = some (.int .i64 c) ∧ w'.cell? ⟨wr.heap.size, 3, none⟩ = some (.int .i64 d)) (first | (go_keep; done) | skip) (first | (go_at_call_of 17 (Value.int IntKind.i64 a); refine (HBa.out _).mono ?_; rintro e wx ⟨rfl, hwx⟩; have hwy := hwx.symm; clear hwx; subst hwy) | (go_at_call_of 17 (Value.int IntKind.i64 b'); refine (HBb.out _).mono ?_; rintro e wx ⟨rfl, hwx⟩; have hwy := hwx.symm; clear hwx; subst hwy) | (go_at_call_of 17 (Value.int IntKind.i64 c); refine (HBc.out _).mono ?_; rintro e wx ⟨rfl, hwx⟩; have hwy := hwx.symm; clear hwx; subst hwy) | (go_at_call_of 17 (Value.int IntKind.i64 d); refine (HBd.out _).mono ?_; rintro e wx ⟨rfl, hwx⟩; have hwy := hwx.symm; clear hwx; subst hwy) | (go_at_call 22; refine (K1.out _).mono ?_; rintro e wU ⟨rfl, xU⟩; have yU : Ext wB wU := Ext.trans (by repeat (first | with_reducible assumption | with_reducible exact Ext.refl _ | with_reducible refine Ext.drew ?_ | with_reducible refine Ext.drewN ?_ _ | with_reducible refine Ext.alloc ?_ _ | with_reducible refine Ext.set ?_ (by first | exact Nat.le_refl _ | (dsimp only; omega) | (simp; done)) _)) xU; obtain ⟨cp0, cp1, cp2, cp3, cp4, cp5, cp6, cp7, cp8, cp9, cp10, cp11, cp12, cp13, cp14⟩ := PB.out.ext yU; have nUa := Nat.ne_of_lt cp14; have nUb := (Nat.ne_of_lt cp14).symm; first | ((with_reducible have hNU := ext_new4d xU); obtain ⟨n0, n1, n2, n3, n4, n5, n6, n7, n8⟩ := hNU.out) | ((with_reducible have hNU := ext_new4 xU); obtain ⟨n0, n1, n2, n3, n4, n5, n6, n7, n8⟩ := hNU.out) | skip))
          all_goals
            go_wp2_with fail
            go_meet
            first
              | with_reducible exact ⟨_, rfl, rfl, part4_a yU⟩
              | ((with_reducible refine ⟨_, rfl, rfl, part4_b hNU yU ?_⟩) <;> omega)
        case rest =>
          obtain ⟨ga, rfl, rfl, hO1⟩ := hcut
          obtain ⟨hH1, hE1, hG1⟩ := hO1.out
          have FA : Hid (H4 wc ga (.int .i64 A0) (.int .i64 A1) (.int .i64 A2) (.int .i64 A3)) := hH1
          have EA : Ext w wc := XB.trans hE1
          have PA : Hid (P14 wc wr.heap.size a b' c d q0 q1 q2 q3 x y z u0 u1 u2) := PB.out.ext hE1
          clear hH1 hE1 hG1 hO1 XB PB nBa nBb HBa HBb HBc HBd K1 cp0 cp1 cp2 cp3 cp4 cp5 cp6 cp7 cp8 cp9 cp10 cp11 cp12 cp13 cp14
          go_upto_region 6 with fail
          generalize wc = wA at *
          obtain ⟨cp0, cp1, cp2, cp3, cp4, cp5, cp6, cp7, cp8, cp9, cp10, cp11, cp12, cp13, cp14⟩ := PA.out
          have nBa := Nat.ne_of_lt cp14
          have nBb := (Nat.ne_of_lt cp14).symm
          go_cut [7, 8] (fun sa sb wx => ∃ ga, sa = .pointer (some ⟨ga, 0, none⟩) ∧ sb = .int .i64 e2 ∧ Hid (Part4 wA wx ga B0 B1 B2 B3))
          case first =>
            try clear HN
            try clear HW
            try clear HVc
            try clear DD
            try clear bd
            try clear hc
            try clear hl'
            try clear hlt
            try clear h20
            try clear hlt'
            try clear hk
            try clear FA
            try clear cp0
            try clear cp1
            try clear cp2
            try clear cp3
            try clear cp8
            try clear cp9
            try clear cp10
            try clear cp11
            try clear cp12
            try clear cp13
            go_region_held3 (fun w' => w'.cell? ⟨wr.heap.size, 4, none⟩ = some (.int .i64 q0) ∧ w'.cell? ⟨wr.heap.size, 5, none⟩ = some (.int .i64 q1) ∧ w'.cell? ⟨wr.heap.size, 6, none⟩ = some (.int .i64 q2) ∧ w'.cell? ⟨wr.heap.size, 7, none⟩ = some (.int .i64 q3)) (first | (go_keep; done) | skip) (first | (go_at_call_of 17 (Value.int IntKind.i64 q0); refine (HBq0.out _).mono ?_; rintro e wx ⟨rfl, hwx⟩; have hwy := hwx.symm; clear hwx; subst hwy) | (go_at_call_of 17 (Value.int IntKind.i64 q1); refine (HBq1.out _).mono ?_; rintro e wx ⟨rfl, hwx⟩; have hwy := hwx.symm; clear hwx; subst hwy) | (go_at_call_of 17 (Value.int IntKind.i64 q2); refine (HBq2.out _).mono ?_; rintro e wx ⟨rfl, hwx⟩; have hwy := hwx.symm; clear hwx; subst hwy) | (go_at_call_of 17 (Value.int IntKind.i64 q3); refine (HBq3.out _).mono ?_; rintro e wx ⟨rfl, hwx⟩; have hwy := hwx.symm; clear hwx; subst hwy) | (go_at_call 22; refine (K2.out _).mono ?_; rintro e wU ⟨rfl, xU⟩; have yU : Ext wA wU := Ext.trans (by repeat (first | with_reducible assumption | with_reducible exact Ext.refl _ | with_reducible refine Ext.drew ?_ | with_reducible refine Ext.drewN ?_ _ | with_reducible refine Ext.alloc ?_ _ | with_reducible refine Ext.set ?_ (by first | exact Nat.le_refl _ | (dsimp only; omega) | (simp; done)) _)) xU; obtain ⟨cp0, cp1, cp2, cp3, cp4, cp5, cp6, cp7, cp8, cp9, cp10, cp11, cp12, cp13, cp14⟩ := PA.out.ext yU; have nUa := Nat.ne_of_lt cp14; have nUb := (Nat.ne_of_lt cp14).symm; first | ((with_reducible have hNU := ext_new4d xU); obtain ⟨n0, n1, n2, n3, n4, n5, n6, n7, n8⟩ := hNU.out) | ((with_reducible have hNU := ext_new4 xU); obtain ⟨n0, n1, n2, n3, n4, n5, n6, n7, n8⟩ := hNU.out) | skip))
            all_goals
              go_wp2_with fail
              go_meet
              first
                | with_reducible exact ⟨_, rfl, rfl, part4_a yU⟩
                | ((with_reducible refine ⟨_, rfl, rfl, part4_b hNU yU ?_⟩) <;> omega)
          case rest =>
            obtain ⟨gb, rfl, rfl, hO2⟩ := hcut
            obtain ⟨hH2, hE2, hG2⟩ := hO2.out
            have Fb0 : Hid (H4 wc gb (.int .i64 B0) (.int .i64 B1) (.int .i64 B2) (.int .i64 B3)) := hH2
            have E0 : Ext w wc := EA.trans hE2
            have Fa0 : Hid (H4 wc ga (.int .i64 A0) (.int .i64 A1) (.int .i64 A2) (.int .i64 A3)) := FA.out.ext hE2
            have FP0 : Hid (P14 wc wr.heap.size a b' c d q0 q1 q2 q3 x y z u0 u1 u2) := PA.out.ext hE2
            clear hH2 hE2 hG2 hO2 FA PA EA nBa nBb cp0 cp1 cp2 cp3 cp4 cp5 cp6 cp7 cp8 cp9 cp10 cp11 cp12 cp13
            clear HBq0 HBq1 HBq2 HBq3 K2
            rcases DD.out with d1 | ⟨rfl, d2⟩ | ⟨rfl, rfl, C0, C1, C2, C3, X0, X1, X2, Y0, Y1, Y2, T0, T1, T2, U0, U1, U2, k3, k4, k5, k6, k7, k8, k9, k10⟩
            · clear DD
              go_wp2_with (go_at_call 13; refine (HN.out _ _).mono ?_; rintro e wx ⟨rfl, hwx⟩; have hwy := hwx.symm; clear hwx; subst hwy)
              go_roundw
              case rel => exact ⟨k + 1, by omega, by go_num, E0⟩
              case measure => simp [intOf]; omega
            · clear DD
              go_wp2_with (go_at_call 13; refine (HN.out _ _).mono ?_; rintro e wx ⟨rfl, hwx⟩; have hwy := hwx.symm; clear hwx; subst hwy)
              go_roundw
              case rel => exact ⟨k + 1, by omega, by go_num, E0⟩
              case measure => simp [intOf]; omega
            · clear DD
              have K3 : Hid _ := k3
              have K4 : Hid _ := k4
              have K5 : Hid _ := k5
              have K6 : Hid _ := k6
              have K7 : Hid _ := k7
              have K8 : Hid _ := k8
              have K9 : Hid _ := k9
              have K10 : Hid _ := k10
              clear k3 k4 k5 k6 k7 k8 k9 k10
              obtain ⟨cp0, cp1, cp2, cp3, cp4, cp5, cp6, cp7, cp8, cp9, cp10, cp11, cp12, cp13, cp14⟩ := FP0.out
              go_wp2_with (go_at_call 13; refine (HN.out _ _).mono ?_; rintro e wx ⟨rfl, hwx⟩; have hwy := hwx.symm; clear hwx; subst hwy)
              clear cp0 cp1 cp2 cp3 cp4 cp5 cp6 cp7 cp8 cp9 cp10 cp11 cp12 cp13
              refine (HVc.out _).mono ?_
              rintro e w1 ⟨rfl, x1⟩
              have E1 : Ext w w1 := E0.trans x1
              have Fa1 : Hid (H4 w1 ga (.int .i64 A0) (.int .i64 A1) (.int .i64 A2) (.int .i64 A3)) := Fa0.out.ext x1
              have Fb1 : Hid (H4 w1 gb (.int .i64 B0) (.int .i64 B1) (.int .i64 B2) (.int .i64 B3)) := Fb0.out.ext x1
              clear x1 E0 Fa0 Fb0 FP0
              have da0 := fun o => (H4.alloc Fa1.out o).1
              have da1 := fun o => (H4.alloc Fa1.out o).2.1
              have da2 := fun o => (H4.alloc Fa1.out o).2.2.1
              have da3 := fun o => (H4.alloc Fa1.out o).2.2.2.1
              have db0 := fun o => (H4.alloc Fb1.out o).1
              have db1 := fun o => (H4.alloc Fb1.out o).2.1
              have db2 := fun o => (H4.alloc Fb1.out o).2.2.1
              have db3 := fun o => (H4.alloc Fb1.out o).2.2.2.1
              go_wp2_with (go_at_call 13; refine (HN.out _ _).mono ?_; rintro e wx ⟨rfl, hwx⟩; have hwy := hwx.symm; clear hwx; subst hwy)
              clear da0 da1 da2 da3
              clear db0 db1 db2 db3
              refine (K3.out _).mono ?_
              rintro e w2 ⟨rfl, x2⟩
              have E2 : Ext w w2 := Ext.trans (E1.alloc _) x2
              have Fa2 : Hid (H4 w2 (ga) (.int .i64 A0) (.int .i64 A1) (.int .i64 A2) (.int .i64 A3)) := (H4.alloc Fa1.out _).ext x2
              have Fb2 : Hid (H4 w2 (gb) (.int .i64 B0) (.int .i64 B1) (.int .i64 B2) (.int .i64 B3)) := (H4.alloc Fb1.out _).ext x2
              have Fv2 : Hid (H3 w2 (w1.heap.size) (.int .i64 ru) (.int .i64 rv) (.int .i64 rs)) := (h3_at rfl).ext x2
              clear x2 E1 Fa1 Fb1
              have dv0 := fun o => (H3.alloc Fv2.out o).1
              have dv1 := fun o => (H3.alloc Fv2.out o).2.1
              have dv2 := fun o => (H3.alloc Fv2.out o).2.2.1
              go_wp2_with (go_at_call 13; refine (HN.out _ _).mono ?_; rintro e wx ⟨rfl, hwx⟩; have hwy := hwx.symm; clear hwx; subst hwy)
              clear dv0 dv1 dv2
              refine (K4.out _).mono ?_
              rintro e w3 ⟨rfl, x3⟩
              have E3 : Ext w w3 := Ext.trans (E2.alloc _) x3
              have Fa3 : Hid (H4 w3 (ga) (.int .i64 A0) (.int .i64 A1) (.int .i64 A2) (.int .i64 A3)) := (H4.alloc Fa2.out _).ext x3
              have Fb3 : Hid (H4 w3 (gb) (.int .i64 B0) (.int .i64 B1) (.int .i64 B2) (.int .i64 B3)) := (H4.alloc Fb2.out _).ext x3
              have Fv3 : Hid (H3 w3 (w1.heap.size) (.int .i64 ru) (.int .i64 rv) (.int .i64 rs)) := (H3.alloc Fv2.out _).ext x3
              have Fc3 : Hid (H4 w3 (w2.heap.size) (.int .i64 C0) (.int .i64 C1) (.int .i64 C2) (.int .i64 C3)) := (h4_at rfl).ext x3
              clear x3 E2 Fa2 Fb2 Fv2
              have db0 := fun o => (H4.alloc Fb3.out o).1
              have db1 := fun o => (H4.alloc Fb3.out o).2.1
              have db2 := fun o => (H4.alloc Fb3.out o).2.2.1
              have db3 := fun o => (H4.alloc Fb3.out o).2.2.2.1
              have dv0 := fun o => (H3.alloc Fv3.out o).1
              have dv1 := fun o => (H3.alloc Fv3.out o).2.1
              have dv2 := fun o => (H3.alloc Fv3.out o).2.2.1
              go_wp2_with (go_at_call 13; refine (HN.out _ _).mono ?_; rintro e wx ⟨rfl, hwx⟩; have hwy := hwx.symm; clear hwx; subst hwy)
              clear db0 db1 db2 db3
              clear dv0 dv1 dv2
              refine (K5.out _).mono ?_
              rintro e w4 ⟨rfl, x4⟩
              have E4 : Ext w w4 := Ext.trans (E3.alloc _) x4
              have Fa4 : Hid (H4 w4 (ga) (.int .i64 A0) (.int .i64 A1) (.int .i64 A2) (.int .i64 A3)) := (H4.alloc Fa3.out _).ext x4
              have Fb4 : Hid (H4 w4 (gb) (.int .i64 B0) (.int .i64 B1) (.int .i64 B2) (.int .i64 B3)) := (H4.alloc Fb3.out _).ext x4
              have Fv4 : Hid (H3 w4 (w1.heap.size) (.int .i64 ru) (.int .i64 rv) (.int .i64 rs)) := (H3.alloc Fv3.out _).ext x4
              have Fc4 : Hid (H4 w4 (w2.heap.size) (.int .i64 C0) (.int .i64 C1) (.int .i64 C2) (.int .i64 C3)) := (H4.alloc Fc3.out _).ext x4
              have Fx4 : Hid (H3 w4 (w3.heap.size) (.int .i64 X0) (.int .i64 X1) (.int .i64 X2)) := (h3_at rfl).ext x4
              clear x4 E3 Fa3 Fb3 Fv3 Fc3
              have da0 := fun o => (H4.alloc Fa4.out o).1
              have da1 := fun o => (H4.alloc Fa4.out o).2.1
              have da2 := fun o => (H4.alloc Fa4.out o).2.2.1
              have da3 := fun o => (H4.alloc Fa4.out o).2.2.2.1
              go_wp2_with (go_at_call 13; refine (HN.out _ _).mono ?_; rintro e wx ⟨rfl, hwx⟩; have hwy := hwx.symm; clear hwx; subst hwy)
              clear da0 da1 da2 da3
              refine (K6.out _).mono ?_
              rintro e w5 ⟨rfl, x5⟩
              have E5 : Ext w w5 := Ext.trans (E4.alloc _) x5
              have Fa5 : Hid (H4 w5 (ga) (.int .i64 A0) (.int .i64 A1) (.int .i64 A2) (.int .i64 A3)) := (H4.alloc Fa4.out _).ext x5
              have Fb5 : Hid (H4 w5 (gb) (.int .i64 B0) (.int .i64 B1) (.int .i64 B2) (.int .i64 B3)) := (H4.alloc Fb4.out _).ext x5
              have Fv5 : Hid (H3 w5 (w1.heap.size) (.int .i64 ru) (.int .i64 rv) (.int .i64 rs)) := (H3.alloc Fv4.out _).ext x5
              have Fc5 : Hid (H4 w5 (w2.heap.size) (.int .i64 C0) (.int .i64 C1) (.int .i64 C2) (.int .i64 C3)) := (H4.alloc Fc4.out _).ext x5
              have Fx5 : Hid (H3 w5 (w3.heap.size) (.int .i64 X0) (.int .i64 X1) (.int .i64 X2)) := (H3.alloc Fx4.out _).ext x5
              have Fy5 : Hid (H3 w5 (w4.heap.size) (.int .i64 Y0) (.int .i64 Y1) (.int .i64 Y2)) := (h3_at rfl).ext x5
              clear x5 E4 Fa4 Fb4 Fv4 Fc4 Fx4
              have dx0 := fun o => (H3.alloc Fx5.out o).1
              have dx1 := fun o => (H3.alloc Fx5.out o).2.1
              have dx2 := fun o => (H3.alloc Fx5.out o).2.2.1
              go_wp2_with (go_at_call 13; refine (HN.out _ _).mono ?_; rintro e wx ⟨rfl, hwx⟩; have hwy := hwx.symm; clear hwx; subst hwy)
              clear dx0 dx1 dx2
              refine (K10.out _).mono ?_
              rintro e w6 ⟨rfl, x6⟩
              have E6 : Ext w w6 := Ext.trans (E5.alloc _) x6
              have Fa6 : Hid (H4 w6 (ga) (.int .i64 A0) (.int .i64 A1) (.int .i64 A2) (.int .i64 A3)) := (H4.alloc Fa5.out _).ext x6
              have Fb6 : Hid (H4 w6 (gb) (.int .i64 B0) (.int .i64 B1) (.int .i64 B2) (.int .i64 B3)) := (H4.alloc Fb5.out _).ext x6
              have Fv6 : Hid (H3 w6 (w1.heap.size) (.int .i64 ru) (.int .i64 rv) (.int .i64 rs)) := (H3.alloc Fv5.out _).ext x6
              have Fc6 : Hid (H4 w6 (w2.heap.size) (.int .i64 C0) (.int .i64 C1) (.int .i64 C2) (.int .i64 C3)) := (H4.alloc Fc5.out _).ext x6
              have Fx6 : Hid (H3 w6 (w3.heap.size) (.int .i64 X0) (.int .i64 X1) (.int .i64 X2)) := (H3.alloc Fx5.out _).ext x6
              have Fy6 : Hid (H3 w6 (w4.heap.size) (.int .i64 Y0) (.int .i64 Y1) (.int .i64 Y2)) := (H3.alloc Fy5.out _).ext x6
              have Ft6 : Hid (H3 w6 (w5.heap.size) (.int .i64 T0) (.int .i64 T1) (.int .i64 T2)) := (h3_at rfl).ext x6
              clear x6 E5 Fa5 Fb5 Fv5 Fc5 Fx5 Fy5
              obtain ⟨pa0, pa1, pa2, pa3, pa4, pa5, pa6, pa7, pa8⟩ := Fa6.out
              go_wp2_with (go_at_call 13; refine (HN.out _ _).mono ?_; rintro e wx ⟨rfl, hwx⟩; have hwy := hwx.symm; clear hwx; subst hwy)
              clear pa0 pa1 pa2 pa3 pa4 pa5 pa6 pa7 pa8
              refine (K7.out _).mono ?_
              rintro e w7 ⟨rfl, x7⟩
              have E7 : Ext w w7 := Ext.trans (E6) x7
              have Fa7 : Hid (H4 w7 (ga) (.int .i64 A0) (.int .i64 A1) (.int .i64 A2) (.int .i64 A3)) := (Fa6.out).ext x7
              have Fb7 : Hid (H4 w7 (gb) (.int .i64 B0) (.int .i64 B1) (.int .i64 B2) (.int .i64 B3)) := (Fb6.out).ext x7
              have Fv7 : Hid (H3 w7 (w1.heap.size) (.int .i64 ru) (.int .i64 rv) (.int .i64 rs)) := (Fv6.out).ext x7
              have Fc7 : Hid (H4 w7 (w2.heap.size) (.int .i64 C0) (.int .i64 C1) (.int .i64 C2) (.int .i64 C3)) := (Fc6.out).ext x7
              have Fx7 : Hid (H3 w7 (w3.heap.size) (.int .i64 X0) (.int .i64 X1) (.int .i64 X2)) := (Fx6.out).ext x7
              have Fy7 : Hid (H3 w7 (w4.heap.size) (.int .i64 Y0) (.int .i64 Y1) (.int .i64 Y2)) := (Fy6.out).ext x7
              have Ft7 : Hid (H3 w7 (w5.heap.size) (.int .i64 T0) (.int .i64 T1) (.int .i64 T2)) := (Ft6.out).ext x7
              clear x7 E6 Fa6 Fb6 Fv6 Fc6 Fx6 Fy6 Ft6
              have dv0 := fun o => (H3.alloc Fv7.out o).1
              have dv1 := fun o => (H3.alloc Fv7.out o).2.1
              have dv2 := fun o => (H3.alloc Fv7.out o).2.2.1
              go_wp2_with (go_at_call 13; refine (HN.out _ _).mono ?_; rintro e wx ⟨rfl, hwx⟩; have hwy := hwx.symm; clear hwx; subst hwy)
              clear dv0 dv1 dv2
              refine (K8.out _).mono ?_
              rintro e w8 ⟨rfl, x8⟩
              have E8 : Ext w w8 := Ext.trans (E7.alloc _) x8
              have Fa8 : Hid (H4 w8 (ga) (.int .i64 A0) (.int .i64 A1) (.int .i64 A2) (.int .i64 A3)) := (H4.alloc Fa7.out _).ext x8
              have Fb8 : Hid (H4 w8 (gb) (.int .i64 B0) (.int .i64 B1) (.int .i64 B2) (.int .i64 B3)) := (H4.alloc Fb7.out _).ext x8
              have Fv8 : Hid (H3 w8 (w1.heap.size) (.int .i64 ru) (.int .i64 rv) (.int .i64 rs)) := (H3.alloc Fv7.out _).ext x8
              have Fc8 : Hid (H4 w8 (w2.heap.size) (.int .i64 C0) (.int .i64 C1) (.int .i64 C2) (.int .i64 C3)) := (H4.alloc Fc7.out _).ext x8
              have Fx8 : Hid (H3 w8 (w3.heap.size) (.int .i64 X0) (.int .i64 X1) (.int .i64 X2)) := (H3.alloc Fx7.out _).ext x8
              have Fy8 : Hid (H3 w8 (w4.heap.size) (.int .i64 Y0) (.int .i64 Y1) (.int .i64 Y2)) := (H3.alloc Fy7.out _).ext x8
              have Ft8 : Hid (H3 w8 (w5.heap.size) (.int .i64 T0) (.int .i64 T1) (.int .i64 T2)) := (H3.alloc Ft7.out _).ext x8
              have Fn8 : Hid (H4 w8 (w7.heap.size) (.int .i64 A0) (.int .i64 (-A1)) (.int .i64 (-A2)) (.int .i64 (-A3))) := (h4_at rfl).ext x8
              clear x8 E7 Fa7 Fb7 Fv7 Fc7 Fx7 Fy7 Ft7
              have da0 := fun o => (H4.alloc Fa8.out o).1
              have da1 := fun o => (H4.alloc Fa8.out o).2.1
              have da2 := fun o => (H4.alloc Fa8.out o).2.2.1
              have da3 := fun o => (H4.alloc Fa8.out o).2.2.2.1
              have dv0 := fun o => (H3.alloc Fv8.out o).1
              have dv1 := fun o => (H3.alloc Fv8.out o).2.1
              have dv2 := fun o => (H3.alloc Fv8.out o).2.2.1
              go_wp2_with (go_at_call 13; refine (HN.out _ _).mono ?_; rintro e wx ⟨rfl, hwx⟩; have hwy := hwx.symm; clear hwx; subst hwy)
              clear da0 da1 da2 da3
              clear dv0 dv1 dv2
              refine (K9.out _).mono ?_
              rintro e w9 ⟨rfl, x9⟩
              have E9 : Ext w w9 := Ext.trans (E8.alloc _) x9
              have Fa9 : Hid (H4 w9 (ga) (.int .i64 A0) (.int .i64 A1) (.int .i64 A2) (.int .i64 A3)) := (H4.alloc Fa8.out _).ext x9
              have Fb9 : Hid (H4 w9 (gb) (.int .i64 B0) (.int .i64 B1) (.int .i64 B2) (.int .i64 B3)) := (H4.alloc Fb8.out _).ext x9
              have Fv9 : Hid (H3 w9 (w1.heap.size) (.int .i64 ru) (.int .i64 rv) (.int .i64 rs)) := (H3.alloc Fv8.out _).ext x9
              have Fc9 : Hid (H4 w9 (w2.heap.size) (.int .i64 C0) (.int .i64 C1) (.int .i64 C2) (.int .i64 C3)) := (H4.alloc Fc8.out _).ext x9
              have Fx9 : Hid (H3 w9 (w3.heap.size) (.int .i64 X0) (.int .i64 X1) (.int .i64 X2)) := (H3.alloc Fx8.out _).ext x9
              have Fy9 : Hid (H3 w9 (w4.heap.size) (.int .i64 Y0) (.int .i64 Y1) (.int .i64 Y2)) := (H3.alloc Fy8.out _).ext x9
              have Ft9 : Hid (H3 w9 (w5.heap.size) (.int .i64 T0) (.int .i64 T1) (.int .i64 T2)) := (H3.alloc Ft8.out _).ext x9
              have Fn9 : Hid (H4 w9 (w7.heap.size) (.int .i64 A0) (.int .i64 (-A1)) (.int .i64 (-A2)) (.int .i64 (-A3))) := (H4.alloc Fn8.out _).ext x9
              have Fu9 : Hid (H3 w9 (w8.heap.size) (.int .i64 U0) (.int .i64 U1) (.int .i64 U2)) := (h3_at rfl).ext x9
              clear x9 E8 Fa8 Fb8 Fv8 Fc8 Fx8 Fy8 Ft8 Fn8
              have du0 := fun o => (H3.alloc Fu9.out o).1
              have du1 := fun o => (H3.alloc Fu9.out o).2.1
              have du2 := fun o => (H3.alloc Fu9.out o).2.2.1
              go_wp2_with (go_at_call 13; refine (HN.out _ _).mono ?_; rintro e wx ⟨rfl, hwx⟩; have hwy := hwx.symm; clear hwx; subst hwy)
              go_roundw
              case rel => exact ⟨k + 1, by omega, by go_num, E9.alloc _⟩
              case measure => simp [intOf]; omega
      · go_wp2_with fail
        refine (HW.out _).mono ?_
        rintro e w1 ⟨rfl, x1⟩
        go_wp2_with fail
        go_ret
        exact ⟨rfl, hx.trans x1⟩
    · have hkn : k = len := by omega
      subst hkn
      go_wp2_with fail
      refine (HW.out _).mono ?_
      rintro e w1 ⟨rfl, x1⟩
      go_wp2_with fail
      go_ret
      exact ⟨rfl, hx.trans x1⟩
set_option maxRecDepth 20000 in
set_option maxHeartbeats 4000000 in
theorem chains_none (a : Option Addr) (cap : Nat) (w : World) :
    Calls Try.prog 7 #[.slice a 0 cap] w fun e w' => e = .returned (.bool true) ∧ Ext w w' := by
  have HW : Hid (∀ w', Calls Try.prog 14 #[] w' fun e w'' => e = .returned (.bool true) ∧ Ext w' w'') := wakes4_any
  go_enter Try.func7, Try.ntmps7
  go_wp2_with fail
  refine wp_loop_rounds 1 ?_
  rw [rounds_succ]
  go_wp2_with fail
  refine (HW.out _).mono ?_
  rintro e w1 ⟨rfl, x1⟩
  go_wp2_with fail
  go_ret
  exact ⟨rfl, x1⟩
end Go.Proofs.Ytchmcmcbdipphaa
