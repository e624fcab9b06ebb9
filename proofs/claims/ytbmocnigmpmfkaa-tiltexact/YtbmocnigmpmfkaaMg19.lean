/- vec: Add, Sub, Neg, Scale. vec: Dot. -/
import Derived.Test.YtbmocnigmpmfkaaMg13
import Derived.Test.YtbmocnigmpmfkaaMg14
import Derived.Test.YtbmocnigmpmfkaaMg17
import Derived.Test.YtbmocnigmpmfkaaMg18
namespace Go.Proofs.Ytbmocnigmpmfkaa
open Go.RowKit Go.Shelf

end Go.Proofs.Ytbmocnigmpmfkaa

namespace Go.Proofs.Ytbmocnigmpmfkaa
open Go.RowKit Go.Shelf

set_option maxHeartbeats 4000000 in
theorem dot_no (a0 a1 a2 b0 b1 b2 : Int) (w : World)
    (HK : Hid (∀ (W : World) (n : Nat) (T : TypeId), W.heap.size = n → Calls Try.prog 24 #[.slice (some ⟨n, 0, none⟩) 2 2] (W.alloc (.cells #[.int .i64 a0, .int .i64 a1, .int .i64 a2, .int .i64 b0, .int .i64 b1, .int .i64 b2] T)) fun e w' => e = .returned (.int .i64 1) ∧ Ext (W.alloc (.cells #[.int .i64 a0, .int .i64 a1, .int .i64 a2, .int .i64 b0, .int .i64 b1, .int .i64 b2] T)) w')) :
    Calls Try.prog 20 #[.agg #[.int .i64 a0, .int .i64 a1, .int .i64 a2], .agg #[.int .i64 b0, .int .i64 b1, .int .i64 b2]] w fun e' w' => e' = .returned (.tuple #[.int .i64 0, .int .i64 1]) ∧ Ext w w' := by
  have HA : Hid (∀ w', Calls Try.prog 25 #[.agg #[.int .i64 a0, .int .i64 a1, .int .i64 a2]] w' fun e w'' => e = .returned (.agg #[.int .i64 a0, .int .i64 a1, .int .i64 a2]) ∧ Ext w' w'') := fun w' => of_any a0 a1 a2 w'
  have HB : Hid (∀ w', Calls Try.prog 25 #[.agg #[.int .i64 b0, .int .i64 b1, .int .i64 b2]] w' fun e w'' => e = .returned (.agg #[.int .i64 b0, .int .i64 b1, .int .i64 b2]) ∧ Ext w' w'') := fun w' => of_any b0 b1 b2 w'
  have PB : Hid (H3 ((w.alloc (.cells #[.int .i64 a0, .int .i64 a1, .int .i64 a2] 24)).alloc (.cells #[.int .i64 b0, .int .i64 b1, .int .i64 b2] 24)).drew w.heap.size (.int .i64 a0) (.int .i64 a1) (.int .i64 a2)) := H3.drew (H3.alloc (h3_at rfl) _)
  have NB : Hid (H3 ((w.alloc (.cells #[.int .i64 a0, .int .i64 a1, .int .i64 a2] 24)).alloc (.cells #[.int .i64 b0, .int .i64 b1, .int .i64 b2] 24)).drew (w.heap.size + 1) (.int .i64 b0) (.int .i64 b1) (.int .i64 b2)) := H3.drew (h3_at (by simp))
  have y0 : Ext ((w.alloc (.cells #[.int .i64 a0, .int .i64 a1, .int .i64 a2] 24)).alloc (.cells #[.int .i64 b0, .int .i64 b1, .int .i64 b2] 24)).drew ((w.alloc (.cells #[.int .i64 a0, .int .i64 a1, .int .i64 a2] 24)).alloc (.cells #[.int .i64 b0, .int .i64 b1, .int .i64 b2] 24)).drew := Ext.refl _
  have E0 : Ext w ((w.alloc (.cells #[.int .i64 a0, .int .i64 a1, .int .i64 a2] 24)).alloc (.cells #[.int .i64 b0, .int .i64 b1, .int .i64 b2] 24)).drew := (((Ext.refl _).alloc _).alloc _).drew
  go_enter Try.func20, Try.ntmps20
  go_wp2_with fail
  go_region_with (first | (go_at_call_of 25 (Value.agg #[Value.int IntKind.i64 a0, Value.int IntKind.i64 a1, Value.int IntKind.i64 a2]); refine (HA.out _).mono ?_; rintro e wA ⟨rfl, xA⟩; have yA : Ext ((w.alloc (.cells #[.int .i64 a0, .int .i64 a1, .int .i64 a2] 24)).alloc (.cells #[.int .i64 b0, .int .i64 b1, .int .i64 b2] 24)).drew wA := Ext.trans (by with_reducible assumption) xA; obtain ⟨p0, p1, p2, p3, p4, p5, p6⟩ := PB.out.ext yA; obtain ⟨n0, n1, n2, n3, n4, n5, n6⟩ := NB.out.ext yA) | (go_at_call_of 25 (Value.agg #[Value.int IntKind.i64 b0, Value.int IntKind.i64 b1, Value.int IntKind.i64 b2]); refine (HB.out _).mono ?_; rintro e wB ⟨rfl, xB⟩; have yB : Ext ((w.alloc (.cells #[.int .i64 a0, .int .i64 a1, .int .i64 a2] 24)).alloc (.cells #[.int .i64 b0, .int .i64 b1, .int .i64 b2] 24)).drew wB := Ext.trans (by with_reducible assumption) xB; obtain ⟨p0, p1, p2, p3, p4, p5, p6⟩ := PB.out.ext yB; obtain ⟨n0, n1, n2, n3, n4, n5, n6⟩ := NB.out.ext yB) | (go_at_call 24; refine (HK.out _ _ _ rfl).mono ?_; rintro e wK ⟨rfl, xK0⟩; have xK := Ext.trans ((Ext.refl _).alloc _) xK0; clear xK0; have yK : Ext ((w.alloc (.cells #[.int .i64 a0, .int .i64 a1, .int .i64 a2] 24)).alloc (.cells #[.int .i64 b0, .int .i64 b1, .int .i64 b2] 24)).drew wK := Ext.trans (by with_reducible assumption) xK; obtain ⟨p0, p1, p2, p3, p4, p5, p6⟩ := PB.out.ext yK; obtain ⟨n0, n1, n2, n3, n4, n5, n6⟩ := NB.out.ext yK))
  all_goals
    have E8 : Ext w wK := E0.trans yK
    clear y0 E0 yK
    go_wp2_with fail
    go_ret2
    exact ⟨rfl, E8⟩


set_option maxHeartbeats 8000000 in
theorem dot_yes (a0 a1 a2 b0 b1 b2 r s : Int) (w : World)
    (HK : Hid (∀ (W : World) (n : Nat) (T : TypeId), W.heap.size = n → Calls Try.prog 24 #[.slice (some ⟨n, 0, none⟩) 2 2] (W.alloc (.cells #[.int .i64 a0, .int .i64 a1, .int .i64 a2, .int .i64 b0, .int .i64 b1, .int .i64 b2] T)) fun e w' => e = .returned (.int .i64 0) ∧ Ext (W.alloc (.cells #[.int .i64 a0, .int .i64 a1, .int .i64 a2, .int .i64 b0, .int .i64 b1, .int .i64 b2] T)) w'))
    (HI : Hid (∀ w', Calls Try.prog 26 #[.agg #[.int .i64 a0, .int .i64 a1, .int .i64 a2], .agg #[.int .i64 b0, .int .i64 b1, .int .i64 b2]] w' fun e w'' => e = .returned (.tuple #[.int .i64 r, .int .i64 s]) ∧ Ext w' w'')) :
    Calls Try.prog 20 #[.agg #[.int .i64 a0, .int .i64 a1, .int .i64 a2], .agg #[.int .i64 b0, .int .i64 b1, .int .i64 b2]] w fun e' w' => e' = .returned (.tuple #[.int .i64 r, .int .i64 s]) ∧ Ext w w' := by
  have HA : Hid (∀ w', Calls Try.prog 25 #[.agg #[.int .i64 a0, .int .i64 a1, .int .i64 a2]] w' fun e w'' => e = .returned (.agg #[.int .i64 a0, .int .i64 a1, .int .i64 a2]) ∧ Ext w' w'') := fun w' => of_any a0 a1 a2 w'
  have HB : Hid (∀ w', Calls Try.prog 25 #[.agg #[.int .i64 b0, .int .i64 b1, .int .i64 b2]] w' fun e w'' => e = .returned (.agg #[.int .i64 b0, .int .i64 b1, .int .i64 b2]) ∧ Ext w' w'') := fun w' => of_any b0 b1 b2 w'
  have PB : Hid (H3 ((w.alloc (.cells #[.int .i64 a0, .int .i64 a1, .int .i64 a2] 24)).alloc (.cells #[.int .i64 b0, .int .i64 b1, .int .i64 b2] 24)).drew w.heap.size (.int .i64 a0) (.int .i64 a1) (.int .i64 a2)) := H3.drew (H3.alloc (h3_at rfl) _)
  have NB : Hid (H3 ((w.alloc (.cells #[.int .i64 a0, .int .i64 a1, .int .i64 a2] 24)).alloc (.cells #[.int .i64 b0, .int .i64 b1, .int .i64 b2] 24)).drew (w.heap.size + 1) (.int .i64 b0) (.int .i64 b1) (.int .i64 b2)) := H3.drew (h3_at (by simp))
  have y0 : Ext ((w.alloc (.cells #[.int .i64 a0, .int .i64 a1, .int .i64 a2] 24)).alloc (.cells #[.int .i64 b0, .int .i64 b1, .int .i64 b2] 24)).drew ((w.alloc (.cells #[.int .i64 a0, .int .i64 a1, .int .i64 a2] 24)).alloc (.cells #[.int .i64 b0, .int .i64 b1, .int .i64 b2] 24)).drew := Ext.refl _
  have E0 : Ext w ((w.alloc (.cells #[.int .i64 a0, .int .i64 a1, .int .i64 a2] 24)).alloc (.cells #[.int .i64 b0, .int .i64 b1, .int .i64 b2] 24)).drew := (((Ext.refl _).alloc _).alloc _).drew
  go_enter Try.func20, Try.ntmps20
  go_wp2_with fail
  go_region_with (first | (go_at_call_of 25 (Value.agg #[Value.int IntKind.i64 a0, Value.int IntKind.i64 a1, Value.int IntKind.i64 a2]); refine (HA.out _).mono ?_; rintro e wA ⟨rfl, xA⟩; have yA : Ext ((w.alloc (.cells #[.int .i64 a0, .int .i64 a1, .int .i64 a2] 24)).alloc (.cells #[.int .i64 b0, .int .i64 b1, .int .i64 b2] 24)).drew wA := Ext.trans (by with_reducible assumption) xA; obtain ⟨p0, p1, p2, p3, p4, p5, p6⟩ := PB.out.ext yA; obtain ⟨n0, n1, n2, n3, n4, n5, n6⟩ := NB.out.ext yA) | (go_at_call_of 25 (Value.agg #[Value.int IntKind.i64 b0, Value.int IntKind.i64 b1, Value.int IntKind.i64 b2]); refine (HB.out _).mono ?_; rintro e wB ⟨rfl, xB⟩; have yB : Ext ((w.alloc (.cells #[.int .i64 a0, .int .i64 a1, .int .i64 a2] 24)).alloc (.cells #[.int .i64 b0, .int .i64 b1, .int .i64 b2] 24)).drew wB := Ext.trans (by with_reducible assumption) xB; obtain ⟨p0, p1, p2, p3, p4, p5, p6⟩ := PB.out.ext yB; obtain ⟨n0, n1, n2, n3, n4, n5, n6⟩ := NB.out.ext yB) | (go_at_call 24; refine (HK.out _ _ _ rfl).mono ?_; rintro e wK ⟨rfl, xK0⟩; have xK := Ext.trans ((Ext.refl _).alloc _) xK0; clear xK0; have yK : Ext ((w.alloc (.cells #[.int .i64 a0, .int .i64 a1, .int .i64 a2] 24)).alloc (.cells #[.int .i64 b0, .int .i64 b1, .int .i64 b2] 24)).drew wK := Ext.trans (by with_reducible assumption) xK; obtain ⟨p0, p1, p2, p3, p4, p5, p6⟩ := PB.out.ext yK; obtain ⟨n0, n1, n2, n3, n4, n5, n6⟩ := NB.out.ext yK))
  all_goals
    have E8 : Ext w wK := E0.trans yK
    have PC : Hid (H3 wK w.heap.size (.int .i64 a0) (.int .i64 a1) (.int .i64 a2)) := PB.out.ext yK
    have NC : Hid (H3 wK (w.heap.size + 1) (.int .i64 b0) (.int .i64 b1) (.int .i64 b2)) := NB.out.ext yK
    clear PB NB y0 E0 yK
    try clear yA
    try clear yB
    try clear xA
    try clear xB
    clear xK HK
    go_wp2_with fail
    have y0 : Ext wK.drew wK.drew := Ext.refl _
    go_region_with (first | (go_at_call_of 25 (Value.agg #[Value.int IntKind.i64 a0, Value.int IntKind.i64 a1, Value.int IntKind.i64 a2]); refine (HA.out _).mono ?_; rintro e wC ⟨rfl, xC⟩; have yC : Ext wK.drew wC := Ext.trans (by with_reducible assumption) xC; obtain ⟨p0, p1, p2, p3, p4, p5, p6⟩ := PC.out.drew.ext yC; obtain ⟨n0, n1, n2, n3, n4, n5, n6⟩ := NC.out.drew.ext yC) | (go_at_call_of 25 (Value.agg #[Value.int IntKind.i64 b0, Value.int IntKind.i64 b1, Value.int IntKind.i64 b2]); refine (HB.out _).mono ?_; rintro e wD ⟨rfl, xD⟩; have yD : Ext wK.drew wD := Ext.trans (by with_reducible assumption) xD; obtain ⟨p0, p1, p2, p3, p4, p5, p6⟩ := PC.out.drew.ext yD; obtain ⟨n0, n1, n2, n3, n4, n5, n6⟩ := NC.out.drew.ext yD) | (go_at_call 26; refine (HI.out _).mono ?_; rintro e wI ⟨rfl, xI⟩; have yI : Ext wK.drew wI := Ext.trans (by with_reducible assumption) xI; obtain ⟨p0, p1, p2, p3, p4, p5, p6⟩ := PC.out.drew.ext yI; obtain ⟨n0, n1, n2, n3, n4, n5, n6⟩ := NC.out.drew.ext yI))
    all_goals
      have E9 : Ext w wI := E8.drew.trans yI
      go_wp2_with fail
      go_ret2
      exact ⟨rfl, E9⟩
theorem vDot_yes (a0 a1 a2 b0 b1 b2 : Int) (w : World) (h1 : ok3 a0 a1 a2 = true) (h2 : ok3 b0 b1 b2 = true) :
    Calls Try.prog 20 #[.agg #[.int .i64 a0, .int .i64 a1, .int .i64 a2], .agg #[.int .i64 b0, .int .i64 b1, .int .i64 b2]] w fun e w' => e = .returned (.tuple #[.int .i64 (fitR (nearQ (dot3 a0 a1 a2 b0 b1 b2))).1, .int .i64 (fitR (nearQ (dot3 a0 a1 a2 b0 b1 b2))).2]) ∧ Ext w w' := by
  obtain ⟨g0, g1, g2⟩ := ok3_parts h1
  obtain ⟨k0, k1, k2⟩ := ok3_parts h2
  exact dot_yes a0 a1 a2 b0 b1 b2 _ _ w (fun W n T hn => check2_yes a0 a1 a2 b0 b1 b2 W n T hn h1 h2) (fun w' => inQ30_any a0 a1 a2 b0 b1 b2 w' g0 g1 g2 k0 k1 k2)
theorem vDot_no (a0 a1 a2 b0 b1 b2 : Int) (w : World) (h : (ok3 a0 a1 a2 && ok3 b0 b1 b2) = false) :
    Calls Try.prog 20 #[.agg #[.int .i64 a0, .int .i64 a1, .int .i64 a2], .agg #[.int .i64 b0, .int .i64 b1, .int .i64 b2]] w fun e w' => e = .returned (.tuple #[.int .i64 0, .int .i64 1]) ∧ Ext w w' :=
  dot_no a0 a1 a2 b0 b1 b2 w (fun W n T hn => check2_no a0 a1 a2 b0 b1 b2 W n T hn h)
end Go.Proofs.Ytbmocnigmpmfkaa
