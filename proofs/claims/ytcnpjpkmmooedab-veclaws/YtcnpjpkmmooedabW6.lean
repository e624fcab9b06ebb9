/- wide: Root. -/
import Derived.Test.YtcnpjpkmmooedabW5
namespace Go.Proofs.Ytcnpjpkmmooedab
open Go.RowKit Go.Shelf

theorem isW_small (k : Int) (h0 : 0 ≤ k) (h1 : k < 18446744073709551616) : IsW (.agg #[.int .u64 k, .int .u64 0, .int .u64 0]) k := isW_of (by rw [l0_cast]; omega) (by rw [l1_cast]; omega) (by rw [l2_cast]; omega)

set_option maxHeartbeats 4000000 in
theorem root_raw (a0 a1 a2 b0 b1 b2 k s o : Int) (z4 z5 z6 : Int) (Q : Value → Prop) (w : World)
    (hk0 : 0 ≤ k) (hk1 : k < 70368744177664) (ho : o = 2 * k + 1)
    (HR : Hid (∀ w', Calls Try.prog 77 #[.agg #[.int .u64 a0, .int .u64 a1, .int .u64 a2], .agg #[.int .u64 b0, .int .u64 b1, .int .u64 b2]] w' fun e w'' => e = .returned (.int .u64 k) ∧ Ext w' w''))
    (HT4 : Hid (∀ w', Calls Try.prog 60 #[.agg #[.int .u64 a0, .int .u64 a1, .int .u64 a2], .int .u64 4] w' fun e w'' => (∃ r, e = .returned r ∧ IsW r z4) ∧ Ext w' w''))
    (HT1 : Hid (∀ w', Calls Try.prog 60 #[.agg #[.int .u64 b0, .int .u64 b1, .int .u64 b2], .int .u64 o] w' fun e w'' => (∃ r, e = .returned r ∧ IsW r z5) ∧ Ext w' w''))
    (HT2 : Hid (∀ t w', IsW t z5 → Calls Try.prog 60 #[t, .int .u64 o] w' fun e w'' => (∃ r, e = .returned r ∧ IsW r z6) ∧ Ext w' w''))
    (HM : Hid (∀ t t' w', IsW t z4 → IsW t' z6 → Calls Try.prog 78 #[t, t'] w' fun e w'' => (∃ r, e = .returned r ∧ IsW r (z4 - z6)) ∧ Ext w' w''))
    (HS : Hid (∀ t w', IsW t (z4 - z6) → Calls Try.prog 79 #[t] w' fun e w'' => e = .returned (.int .i64 s) ∧ Ext w' w''))
    (hup : Hid ((0 < s ∨ s = 0 ∧ k % 2 = 1) → Q (.agg #[.int .u64 (k + 1), .int .u64 0, .int .u64 0])))
    (hdn : Hid (¬ (0 < s ∨ s = 0 ∧ k % 2 = 1) → Q (.agg #[.int .u64 k, .int .u64 0, .int .u64 0]))) :
    Calls Try.prog 58 #[.agg #[.int .u64 a0, .int .u64 a1, .int .u64 a2], .agg #[.int .u64 b0, .int .u64 b1, .int .u64 b2]] w fun e w' => (∃ r, e = .returned r ∧ Q r) ∧ Ext w w' := by
  have E0 : Ext w (((w.alloc (.cells #[.int .u64 a0, .int .u64 a1, .int .u64 a2] 75)).alloc (.cells #[.int .u64 b0, .int .u64 b1, .int .u64 b2] 75)).alloc (.cells #[.int .u64 0, .int .u64 0, .int .u64 0] 75)) := (((Ext.refl _).alloc _).alloc _).alloc _
  go_enter Try.func58, Try.ntmps58
  go_wp2_with fail
  refine (HR.out _).mono ?_
  rintro e w1 ⟨rfl, x1⟩
  have PB : Hid (H3 w1 w.heap.size (.int .u64 a0) (.int .u64 a1) (.int .u64 a2)) := (H3.alloc (H3.alloc (h3_at rfl) _) _).ext x1
  have NB : Hid (H3 w1 (w.heap.size + 1) (.int .u64 b0) (.int .u64 b1) (.int .u64 b2)) := (H3.alloc (h3_at (by simp)) _).ext x1
  have RB : Hid (H3 w1 (w.heap.size + 1 + 1) (.int .u64 0) (.int .u64 0) (.int .u64 0)) := (h3_at (by simp)).ext x1
  have E1 : Ext w w1.drew := (E0.trans x1).drew
  clear E0 x1
  obtain ⟨p0, p1, p2, p3, p4, p5, p6⟩ := PB.out
  obtain ⟨n0, n1, n2, n3, n4, n5, n6⟩ := NB.out
  have y1 : Ext w1.drew w1.drew := Ext.refl _
  by_cases h1 : 0 < s
  · have HQ := hup.out (Or.inl h1)
    have H : Hid _ := HQ
    clear HQ hup hdn
    subst ho
    go_wp2_with fail
    go_region_with (first | (go_at_call_of 60 (Value.agg #[Value.int IntKind.u64 a0, Value.int IntKind.u64 a1, Value.int IntKind.u64 a2]); refine (HT4.out _).mono ?_; rintro e w4 ⟨⟨u4, rfl, hu4⟩, x4⟩; have y4 : Ext w1.drew w4 := Ext.trans (by with_reducible assumption) x4; obtain ⟨p0, p1, p2, p3, p4, p5, p6⟩ := PB.out.drew.ext y4; obtain ⟨n0, n1, n2, n3, n4, n5, n6⟩ := NB.out.drew.ext y4; obtain ⟨m0, m1, m2, m3, m4, m5, m6⟩ := RB.out.drew.ext y4) | (go_at_call_of 60 (Value.agg #[Value.int IntKind.u64 b0, Value.int IntKind.u64 b1, Value.int IntKind.u64 b2]); refine (HT1.out _).mono ?_; rintro e w5 ⟨⟨u5, rfl, hu5⟩, x5⟩; have y5 : Ext w1.drew w5 := Ext.trans (by with_reducible assumption) x5; obtain ⟨p0, p1, p2, p3, p4, p5, p6⟩ := PB.out.drew.ext y5; obtain ⟨n0, n1, n2, n3, n4, n5, n6⟩ := NB.out.drew.ext y5; obtain ⟨m0, m1, m2, m3, m4, m5, m6⟩ := RB.out.drew.ext y5) | (go_at_call_of 60 u5; refine (HT2.out _ _ hu5).mono ?_; rintro e w6 ⟨⟨u6, rfl, hu6⟩, x6⟩; have y6 : Ext w1.drew w6 := Ext.trans (by with_reducible assumption) x6; obtain ⟨p0, p1, p2, p3, p4, p5, p6⟩ := PB.out.drew.ext y6; obtain ⟨n0, n1, n2, n3, n4, n5, n6⟩ := NB.out.drew.ext y6; obtain ⟨m0, m1, m2, m3, m4, m5, m6⟩ := RB.out.drew.ext y6) | (go_at_call 78; refine (HM.out _ _ _ hu4 hu6).mono ?_; rintro e w7 ⟨⟨u7, rfl, hu7⟩, x7⟩; have y7 : Ext w1.drew w7 := Ext.trans (by with_reducible assumption) x7; obtain ⟨p0, p1, p2, p3, p4, p5, p6⟩ := PB.out.drew.ext y7; obtain ⟨n0, n1, n2, n3, n4, n5, n6⟩ := NB.out.drew.ext y7; obtain ⟨m0, m1, m2, m3, m4, m5, m6⟩ := RB.out.drew.ext y7) | (go_at_call 79; refine (HS.out _ _ hu7).mono ?_; rintro e w8 ⟨rfl, x8⟩; have y8 : Ext w1.drew w8 := Ext.trans (by with_reducible assumption) x8; obtain ⟨p0, p1, p2, p3, p4, p5, p6⟩ := PB.out.drew.ext y8; obtain ⟨n0, n1, n2, n3, n4, n5, n6⟩ := NB.out.drew.ext y8; obtain ⟨m0, m1, m2, m3, m4, m5, m6⟩ := RB.out.drew.ext y8))
    all_goals
      have E8 : Ext w w8 := E1.trans y8
      clear y1 y4 y5 y6 y7 y8 x4 x5 x6 x7 x8 E1
      go_wp2_with fail
      exact bodyPost_ret (v := .agg #[.int .u64 (k + 1), .int .u64 0, .int .u64 0]) (by simp [results, Try.results58, go_sem, m0, m1, m2]) rfl ⟨⟨_, rfl, H.out⟩, by repeat (first | with_reducible assumption | with_reducible exact Ext.refl _ | with_reducible refine Ext.drew ?_ | with_reducible refine Ext.drewN ?_ _ | with_reducible refine Ext.alloc ?_ _ | with_reducible refine Ext.set ?_ (by first | exact Nat.le_refl _ | (dsimp only; omega) | (simp; done)) _)⟩
  · by_cases h2 : s = 0
    · by_cases h3 : k % 2 = 1
      · have HQ := hup.out (Or.inr ⟨h2, h3⟩)
        have H : Hid _ := HQ
        clear HQ hup hdn h1
        subst h2
        subst ho
        go_wp2_with fail
        go_region_with (first | (go_at_call_of 60 (Value.agg #[Value.int IntKind.u64 a0, Value.int IntKind.u64 a1, Value.int IntKind.u64 a2]); refine (HT4.out _).mono ?_; rintro e w4 ⟨⟨u4, rfl, hu4⟩, x4⟩; have y4 : Ext w1.drew w4 := Ext.trans (by with_reducible assumption) x4; obtain ⟨p0, p1, p2, p3, p4, p5, p6⟩ := PB.out.drew.ext y4; obtain ⟨n0, n1, n2, n3, n4, n5, n6⟩ := NB.out.drew.ext y4; obtain ⟨m0, m1, m2, m3, m4, m5, m6⟩ := RB.out.drew.ext y4) | (go_at_call_of 60 (Value.agg #[Value.int IntKind.u64 b0, Value.int IntKind.u64 b1, Value.int IntKind.u64 b2]); refine (HT1.out _).mono ?_; rintro e w5 ⟨⟨u5, rfl, hu5⟩, x5⟩; have y5 : Ext w1.drew w5 := Ext.trans (by with_reducible assumption) x5; obtain ⟨p0, p1, p2, p3, p4, p5, p6⟩ := PB.out.drew.ext y5; obtain ⟨n0, n1, n2, n3, n4, n5, n6⟩ := NB.out.drew.ext y5; obtain ⟨m0, m1, m2, m3, m4, m5, m6⟩ := RB.out.drew.ext y5) | (go_at_call_of 60 u5; refine (HT2.out _ _ hu5).mono ?_; rintro e w6 ⟨⟨u6, rfl, hu6⟩, x6⟩; have y6 : Ext w1.drew w6 := Ext.trans (by with_reducible assumption) x6; obtain ⟨p0, p1, p2, p3, p4, p5, p6⟩ := PB.out.drew.ext y6; obtain ⟨n0, n1, n2, n3, n4, n5, n6⟩ := NB.out.drew.ext y6; obtain ⟨m0, m1, m2, m3, m4, m5, m6⟩ := RB.out.drew.ext y6) | (go_at_call 78; refine (HM.out _ _ _ hu4 hu6).mono ?_; rintro e w7 ⟨⟨u7, rfl, hu7⟩, x7⟩; have y7 : Ext w1.drew w7 := Ext.trans (by with_reducible assumption) x7; obtain ⟨p0, p1, p2, p3, p4, p5, p6⟩ := PB.out.drew.ext y7; obtain ⟨n0, n1, n2, n3, n4, n5, n6⟩ := NB.out.drew.ext y7; obtain ⟨m0, m1, m2, m3, m4, m5, m6⟩ := RB.out.drew.ext y7) | (go_at_call 79; refine (HS.out _ _ hu7).mono ?_; rintro e w8 ⟨rfl, x8⟩; have y8 : Ext w1.drew w8 := Ext.trans (by with_reducible assumption) x8; obtain ⟨p0, p1, p2, p3, p4, p5, p6⟩ := PB.out.drew.ext y8; obtain ⟨n0, n1, n2, n3, n4, n5, n6⟩ := NB.out.drew.ext y8; obtain ⟨m0, m1, m2, m3, m4, m5, m6⟩ := RB.out.drew.ext y8))
        all_goals
          have E8 : Ext w w8 := E1.trans y8
          clear y1 y4 y5 y6 y7 y8 x4 x5 x6 x7 x8 E1
          go_wp2_with fail
          exact bodyPost_ret (v := .agg #[.int .u64 (k + 1), .int .u64 0, .int .u64 0]) (by simp [results, Try.results58, go_sem, m0, m1, m2]) rfl ⟨⟨_, rfl, H.out⟩, by repeat (first | with_reducible assumption | with_reducible exact Ext.refl _ | with_reducible refine Ext.drew ?_ | with_reducible refine Ext.drewN ?_ _ | with_reducible refine Ext.alloc ?_ _ | with_reducible refine Ext.set ?_ (by first | exact Nat.le_refl _ | (dsimp only; omega) | (simp; done)) _)⟩
      · have HQ := hdn.out (by omega)
        have H : Hid _ := HQ
        have h4 : (k % 2 == 1) = false := by rw [beq_eq_false_iff_ne]; exact h3
        clear HQ hup hdn h1
        subst h2
        subst ho
        go_wp2_with fail
        go_region_with (first | (go_at_call_of 60 (Value.agg #[Value.int IntKind.u64 a0, Value.int IntKind.u64 a1, Value.int IntKind.u64 a2]); refine (HT4.out _).mono ?_; rintro e w4 ⟨⟨u4, rfl, hu4⟩, x4⟩; have y4 : Ext w1.drew w4 := Ext.trans (by with_reducible assumption) x4; obtain ⟨p0, p1, p2, p3, p4, p5, p6⟩ := PB.out.drew.ext y4; obtain ⟨n0, n1, n2, n3, n4, n5, n6⟩ := NB.out.drew.ext y4; obtain ⟨m0, m1, m2, m3, m4, m5, m6⟩ := RB.out.drew.ext y4) | (go_at_call_of 60 (Value.agg #[Value.int IntKind.u64 b0, Value.int IntKind.u64 b1, Value.int IntKind.u64 b2]); refine (HT1.out _).mono ?_; rintro e w5 ⟨⟨u5, rfl, hu5⟩, x5⟩; have y5 : Ext w1.drew w5 := Ext.trans (by with_reducible assumption) x5; obtain ⟨p0, p1, p2, p3, p4, p5, p6⟩ := PB.out.drew.ext y5; obtain ⟨n0, n1, n2, n3, n4, n5, n6⟩ := NB.out.drew.ext y5; obtain ⟨m0, m1, m2, m3, m4, m5, m6⟩ := RB.out.drew.ext y5) | (go_at_call_of 60 u5; refine (HT2.out _ _ hu5).mono ?_; rintro e w6 ⟨⟨u6, rfl, hu6⟩, x6⟩; have y6 : Ext w1.drew w6 := Ext.trans (by with_reducible assumption) x6; obtain ⟨p0, p1, p2, p3, p4, p5, p6⟩ := PB.out.drew.ext y6; obtain ⟨n0, n1, n2, n3, n4, n5, n6⟩ := NB.out.drew.ext y6; obtain ⟨m0, m1, m2, m3, m4, m5, m6⟩ := RB.out.drew.ext y6) | (go_at_call 78; refine (HM.out _ _ _ hu4 hu6).mono ?_; rintro e w7 ⟨⟨u7, rfl, hu7⟩, x7⟩; have y7 : Ext w1.drew w7 := Ext.trans (by with_reducible assumption) x7; obtain ⟨p0, p1, p2, p3, p4, p5, p6⟩ := PB.out.drew.ext y7; obtain ⟨n0, n1, n2, n3, n4, n5, n6⟩ := NB.out.drew.ext y7; obtain ⟨m0, m1, m2, m3, m4, m5, m6⟩ := RB.out.drew.ext y7) | (go_at_call 79; refine (HS.out _ _ hu7).mono ?_; rintro e w8 ⟨rfl, x8⟩; have y8 : Ext w1.drew w8 := Ext.trans (by with_reducible assumption) x8; obtain ⟨p0, p1, p2, p3, p4, p5, p6⟩ := PB.out.drew.ext y8; obtain ⟨n0, n1, n2, n3, n4, n5, n6⟩ := NB.out.drew.ext y8; obtain ⟨m0, m1, m2, m3, m4, m5, m6⟩ := RB.out.drew.ext y8))
        all_goals
          have E8 : Ext w w8 := E1.trans y8
          clear y1 y4 y5 y6 y7 y8 x4 x5 x6 x7 x8 E1
          go_wp2_with fail
          exact bodyPost_ret (v := .agg #[.int .u64 k, .int .u64 0, .int .u64 0]) (by simp [results, Try.results58, go_sem, m0, m1, m2]) rfl ⟨⟨_, rfl, H.out⟩, by repeat (first | with_reducible assumption | with_reducible exact Ext.refl _ | with_reducible refine Ext.drew ?_ | with_reducible refine Ext.drewN ?_ _ | with_reducible refine Ext.alloc ?_ _ | with_reducible refine Ext.set ?_ (by first | exact Nat.le_refl _ | (dsimp only; omega) | (simp; done)) _)⟩
    · have HQ := hdn.out (by omega)
      have H : Hid _ := HQ
      have h4 : (s == 0) = false := by rw [beq_eq_false_iff_ne]; exact h2
      clear HQ hup hdn
      subst ho
      go_wp2_with fail
      go_region_with (first | (go_at_call_of 60 (Value.agg #[Value.int IntKind.u64 a0, Value.int IntKind.u64 a1, Value.int IntKind.u64 a2]); refine (HT4.out _).mono ?_; rintro e w4 ⟨⟨u4, rfl, hu4⟩, x4⟩; have y4 : Ext w1.drew w4 := Ext.trans (by with_reducible assumption) x4; obtain ⟨p0, p1, p2, p3, p4, p5, p6⟩ := PB.out.drew.ext y4; obtain ⟨n0, n1, n2, n3, n4, n5, n6⟩ := NB.out.drew.ext y4; obtain ⟨m0, m1, m2, m3, m4, m5, m6⟩ := RB.out.drew.ext y4) | (go_at_call_of 60 (Value.agg #[Value.int IntKind.u64 b0, Value.int IntKind.u64 b1, Value.int IntKind.u64 b2]); refine (HT1.out _).mono ?_; rintro e w5 ⟨⟨u5, rfl, hu5⟩, x5⟩; have y5 : Ext w1.drew w5 := Ext.trans (by with_reducible assumption) x5; obtain ⟨p0, p1, p2, p3, p4, p5, p6⟩ := PB.out.drew.ext y5; obtain ⟨n0, n1, n2, n3, n4, n5, n6⟩ := NB.out.drew.ext y5; obtain ⟨m0, m1, m2, m3, m4, m5, m6⟩ := RB.out.drew.ext y5) | (go_at_call_of 60 u5; refine (HT2.out _ _ hu5).mono ?_; rintro e w6 ⟨⟨u6, rfl, hu6⟩, x6⟩; have y6 : Ext w1.drew w6 := Ext.trans (by with_reducible assumption) x6; obtain ⟨p0, p1, p2, p3, p4, p5, p6⟩ := PB.out.drew.ext y6; obtain ⟨n0, n1, n2, n3, n4, n5, n6⟩ := NB.out.drew.ext y6; obtain ⟨m0, m1, m2, m3, m4, m5, m6⟩ := RB.out.drew.ext y6) | (go_at_call 78; refine (HM.out _ _ _ hu4 hu6).mono ?_; rintro e w7 ⟨⟨u7, rfl, hu7⟩, x7⟩; have y7 : Ext w1.drew w7 := Ext.trans (by with_reducible assumption) x7; obtain ⟨p0, p1, p2, p3, p4, p5, p6⟩ := PB.out.drew.ext y7; obtain ⟨n0, n1, n2, n3, n4, n5, n6⟩ := NB.out.drew.ext y7; obtain ⟨m0, m1, m2, m3, m4, m5, m6⟩ := RB.out.drew.ext y7) | (go_at_call 79; refine (HS.out _ _ hu7).mono ?_; rintro e w8 ⟨rfl, x8⟩; have y8 : Ext w1.drew w8 := Ext.trans (by with_reducible assumption) x8; obtain ⟨p0, p1, p2, p3, p4, p5, p6⟩ := PB.out.drew.ext y8; obtain ⟨n0, n1, n2, n3, n4, n5, n6⟩ := NB.out.drew.ext y8; obtain ⟨m0, m1, m2, m3, m4, m5, m6⟩ := RB.out.drew.ext y8))
      all_goals
        have E8 : Ext w w8 := E1.trans y8
        clear y1 y4 y5 y6 y7 y8 x4 x5 x6 x7 x8 E1
        go_wp2_with fail
        exact bodyPost_ret (v := .agg #[.int .u64 k, .int .u64 0, .int .u64 0]) (by simp [results, Try.results58, go_sem, m0, m1, m2]) rfl ⟨⟨_, rfl, H.out⟩, by repeat (first | with_reducible assumption | with_reducible exact Ext.refl _ | with_reducible refine Ext.drew ?_ | with_reducible refine Ext.drewN ?_ _ | with_reducible refine Ext.alloc ?_ _ | with_reducible refine Ext.set ?_ (by first | exact Nat.le_refl _ | (dsimp only; omega) | (simp; done)) _)⟩
end Go.Proofs.Ytcnpjpkmmooedab
