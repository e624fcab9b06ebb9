/- gimbalref3: UnitQuat, Turn, Back. -/
import Derived.Test.YtoeecldhbabmbaaGreatR3nx
import Derived.Test.YtoeecldhbabmbaaGreatQ8m
import Derived.Test.YtoeecldhbabmbaaGreatMg23
open Go.Value renaming int → J, agg → zG
open Go.IntKind renaming i64 → zq
open Go.Ending renaming returned → zR
open Go.Proofs.Tryz renaming prog → zP
namespace Go.Proofs.YtoeecldhbabmbaaGreat
open Go.RowKit Go.Shelf
theorem nb_new {w0 X w' : World} {T : TypeId} {vs : List Value} (h : Ext w0 X) (x : Ext (X.alloc (.cells vs.toArray T)) w') : w0.heap.size ≤ X.heap.size ∧ HV w' X.heap.size vs := ⟨h.size, (hv_at rfl).ext x⟩
theorem nb_drew {w0 X w' : World} {T : TypeId} {vs : List Value} (h : Ext w0 X) (x : Ext ((X.alloc (.cells vs.toArray T)).drew) w') : w0.heap.size ≤ X.heap.size ∧ HV w' X.heap.size vs := ⟨h.size, (HV.drew (hv_at rfl)).ext x⟩
theorem nb_ext {w0 w w' : World} {b : Nat} {vs : List Value} (h : w0.heap.size ≤ b ∧ HV w b vs) (x : Ext w w') : w0.heap.size ≤ b ∧ HV w' b vs := ⟨h.1, h.2.ext x⟩
set_option maxRecDepth 20000 in
set_option maxHeartbeats 40000000 in
theorem rturn_raw (a b c d x y z nb nc nd N m0 m1 m2 m3 r0 r1 r2 r3 n1 n2 n3 p1 p2 p3 e1 e2 e3 s0 s1 s2 es : Int) (d1 d2 d3 : Nat) (w : World) (HD : Hid (∀ w', Calls zP 19 #[zG #[J zq a, J zq b, J zq c, J zq d]] w' fun e w'' => (∃ r, e = zR r ∧ IsI w'' r (N)) ∧ Ext w' w'')) (HZ : Hid (∀ r w', IsI w' r N → Calls zP 68 #[r] w' fun e w'' => e = zR (.bool false) ∧ Ext w' w'')) (O1 : Hid (∀ w', Calls zP 65 #[zG #[J zq a, J zq b, J zq c, J zq d]] w' fun e w'' => (∃ r, e = zR r ∧ IsFour w'' r a b c d) ∧ Ext w' w'')) (O2 : Hid (∀ w', Calls zP 65 #[zG #[J zq 0, J zq x, J zq y, J zq z]] w' fun e w'' => (∃ r, e = zR r ∧ IsFour w'' r 0 x y z) ∧ Ext w' w'')) (HC : Hid (∀ w', Calls zP 74 #[zG #[J zq a, J zq b, J zq c, J zq d]] w' fun e w'' => e = zR (zG #[J zq a, J zq nb, J zq nc, J zq nd]) ∧ Ext w' w'')) (O3 : Hid (∀ w', Calls zP 65 #[zG #[J zq a, J zq nb, J zq nc, J zq nd]] w' fun e w'' => (∃ r, e = zR r ∧ IsFour w'' r a nb nc nd) ∧ Ext w' w'')) (T1 : Hid (∀ v1 v2 w', IsFour w' v1 a b c d → IsFour w' v2 0 x y z → Calls zP 64 #[v1, v2] w' fun e w'' => (∃ r, e = zR r ∧ IsFour w'' r m0 m1 m2 m3) ∧ Ext w' w'')) (T2 : Hid (∀ v1 v2 w', IsFour w' v1 m0 m1 m2 m3 → IsFour w' v2 a nb nc nd → Calls zP 64 #[v1, v2] w' fun e w'' => (∃ r, e = zR r ∧ IsFour w'' r r0 r1 r2 r3) ∧ Ext w' w'')) (V1 : Hid (∀ ra rb w', IsI w' ra r1 → IsI w' rb N → Calls zP 61 #[ra, rb] w' fun e w'' => (∃ q, e = zR q ∧ IsQ w'' q n1 d1) ∧ Ext w' w'')) (N1 : Hid (∀ q w', IsQ w' q n1 d1 → Calls zP 60 #[q] w' fun e w'' => e = zR (.tuple #[J zq p1, J zq e1]) ∧ Ext w' w'')) (V2 : Hid (∀ ra rb w', IsI w' ra r2 → IsI w' rb N → Calls zP 61 #[ra, rb] w' fun e w'' => (∃ q, e = zR q ∧ IsQ w'' q n2 d2) ∧ Ext w' w'')) (N2 : Hid (∀ q w', IsQ w' q n2 d2 → Calls zP 60 #[q] w' fun e w'' => e = zR (.tuple #[J zq p2, J zq e2]) ∧ Ext w' w'')) (V3 : Hid (∀ ra rb w', IsI w' ra r3 → IsI w' rb N → Calls zP 61 #[ra, rb] w' fun e w'' => (∃ q, e = zR q ∧ IsQ w'' q n3 d3) ∧ Ext w' w'')) (N3 : Hid (∀ q w', IsQ w' q n3 d3 → Calls zP 60 #[q] w' fun e w'' => e = zR (.tuple #[J zq p3, J zq e3]) ∧ Ext w' w'')) (HT : Hid (∀ w', Calls zP 62 #[J zq p1, J zq e1, J zq p2, J zq e2, J zq p3, J zq e3] w' fun e w'' => e = zR (.tuple #[zG #[J zq s0, J zq s1, J zq s2], J zq es]) ∧ Ext w' w'')) :
    Calls zP 35 #[zG #[J zq a, J zq b, J zq c, J zq d], zG #[J zq x, J zq y, J zq z]] w fun e w'' => e = zR (.tuple #[zG #[J zq s0, J zq s1, J zq s2], J zq es]) ∧ Ext w w'' := by
  have QB : Hid (HV (((w.alloc (.cells #[J zq a, J zq b, J zq c, J zq d] 24)).alloc (.cells #[J zq x, J zq y, J zq z] 28)).alloc (.cells #[J zq 0, J zq 0, J zq 0] 28)) w.heap.size [J zq a, J zq b, J zq c, J zq d]) := HV.alloc (HV.alloc (hv_at rfl) _) _
  have VB : Hid (HV (((w.alloc (.cells #[J zq a, J zq b, J zq c, J zq d] 24)).alloc (.cells #[J zq x, J zq y, J zq z] 28)).alloc (.cells #[J zq 0, J zq 0, J zq 0] 28)) (w.heap.size + 1) [J zq x, J zq y, J zq z]) := HV.alloc (hv_at (by simp)) _
  have RB : Hid (HV (((w.alloc (.cells #[J zq a, J zq b, J zq c, J zq d] 24)).alloc (.cells #[J zq x, J zq y, J zq z] 28)).alloc (.cells #[J zq 0, J zq 0, J zq 0] 28)) (w.heap.size + 1 + 1) [J zq 0, J zq 0, J zq 0]) := hv_at (by simp)
  have E0 : Hid (Ext w (((w.alloc (.cells #[J zq a, J zq b, J zq c, J zq d] 24)).alloc (.cells #[J zq x, J zq y, J zq z] 28)).alloc (.cells #[J zq 0, J zq 0, J zq 0] 28))) := (((Ext.refl _).alloc _).alloc _).alloc _
  go_enter Tryz.func35, Tryz.ntmps35
  go_upto_region 1 with fail
  generalize (((w.alloc (.cells #[J zq a, J zq b, J zq c, J zq d] 24)).alloc (.cells #[J zq x, J zq y, J zq z] 28)).alloc (.cells #[J zq 0, J zq 0, J zq 0] 28)) = wB at *
  have q0 := QB.out.c 0 rfl
  have q1 := QB.out.c 1 rfl
  have q2 := QB.out.c 2 rfl
  have q3 := QB.out.c 3 rfl
  go_wp2_with fail
  refine (HD.out _).mono ?_
  rintro e w1 ⟨⟨r, rfl, hr⟩, x1⟩
  obtain ⟨bn, an, ln, cn, rfl⟩ := hr.form
  have QB : Hid (HV w1 w.heap.size [J zq a, J zq b, J zq c, J zq d]) := QB.out.ext x1
  have VB : Hid (HV w1 (w.heap.size + 1) [J zq x, J zq y, J zq z]) := VB.out.ext x1
  have RB : Hid (HV w1 (w.heap.size + 1 + 1) [J zq 0, J zq 0, J zq 0]) := RB.out.ext x1
  have E0 := exx E0 x1
  clear x1 HD q0 q1 q2 q3
  go_upto_region 2 with fail
  have NB : Hid (HV (w1.alloc (.cells #[.bool bn, .slice an ln cn] 50)) w1.heap.size [.bool bn, .slice an ln cn]) := hv_at rfl
  have lr : w.heap.size + 1 + 1 < w1.heap.size := RB.out.1
  have IN : Hid (IsI (w1.alloc (.cells #[.bool bn, .slice an ln cn] 50)) (zG #[.bool bn, .slice an ln cn]) N) := hr.ext ((Ext.refl _).alloc _)
  have QB : Hid (HV (w1.alloc (.cells #[.bool bn, .slice an ln cn] 50)) w.heap.size [J zq a, J zq b, J zq c, J zq d]) := QB.out.alloc _
  have VB : Hid (HV (w1.alloc (.cells #[.bool bn, .slice an ln cn] 50)) (w.heap.size + 1) [J zq x, J zq y, J zq z]) := VB.out.alloc _
  have RB : Hid (HV (w1.alloc (.cells #[.bool bn, .slice an ln cn] 50)) (w.heap.size + 1 + 1) [J zq 0, J zq 0, J zq 0]) := RB.out.alloc _
  have E0 := exl E0 (.cells #[.bool bn, .slice an ln cn] 50)
  clear hr
  generalize w1.alloc (.cells #[.bool bn, .slice an ln cn] 50) = w2 at *
  generalize w1.heap.size = nn at *
  have n0 := NB.out.c 0 rfl
  have n1 := NB.out.c 1 rfl
  go_upto_region 4 with (go_at_call 68; refine (HZ.out _ _ IN.out).mono ?_; rintro e w3 ⟨rfl, x3⟩)
  have IN : Hid (IsI w3 (zG #[.bool bn, .slice an ln cn]) N) := IN.out.ext x3
  have NB : Hid (HV w3 nn [.bool bn, .slice an ln cn]) := NB.out.ext x3
  have QB : Hid (HV w3 w.heap.size [J zq a, J zq b, J zq c, J zq d]) := QB.out.ext x3
  have VB : Hid (HV w3 (w.heap.size + 1) [J zq x, J zq y, J zq z]) := VB.out.ext x3
  have RB : Hid (HV w3 (w.heap.size + 1 + 1) [J zq 0, J zq 0, J zq 0]) := RB.out.ext x3
  have E0 := exx E0 x3
  clear x3 n0 n1 HZ
  go_cut [7] (fun v7 wx => ∃ (g : Nat) (b0 b1 b2 b3 : Bool) (a0 a1 a2 a3 : Option Addr) (l0 k0 l1 k1 l2 k2 l3 k3 : Nat), v7 = .pointer (some ⟨g, 0, none⟩) ∧ Hid (w3.heap.size ≤ g) ∧ Hid (HV wx g [.bool b0, .slice a0 l0 k0, .bool b1, .slice a1 l1 k1, .bool b2, .slice a2 l2 k2, .bool b3, .slice a3 l3 k3]) ∧ Hid (IsI wx (zG #[.bool b0, .slice a0 l0 k0]) r0) ∧ Hid (IsI wx (zG #[.bool b1, .slice a1 l1 k1]) r1) ∧ Hid (IsI wx (zG #[.bool b2, .slice a2 l2 k2]) r2) ∧ Hid (IsI wx (zG #[.bool b3, .slice a3 l3 k3]) r3) ∧ Hid (Ext w3 wx))
  case first =>
    have qq0 := QB.out.c 0 rfl
    have qq1 := QB.out.c 1 rfl
    have qq2 := QB.out.c 2 rfl
    have qq3 := QB.out.c 3 rfl
    have qv0 := VB.out.c 0 rfl
    have qv1 := VB.out.c 1 rfl
    have qv2 := VB.out.c 2 rfl
    have lq := QB.out.1
    have lv := VB.out.1
    have nea := Nat.ne_of_lt lq
    have neb := Nat.ne_of_gt lq
    have nec := Nat.ne_of_lt lv
    have ned := Nat.ne_of_gt lv
    clear IN NB RB E0 V1 V2 V3 N1 N2 N3 HT
    go_region_held3 (fun w' => w'.cell? ⟨w.heap.size, 0, none⟩ = some (J zq a) ∧ w'.cell? ⟨w.heap.size, 1, none⟩ = some (J zq b) ∧ w'.cell? ⟨w.heap.size, 2, none⟩ = some (J zq c) ∧ w'.cell? ⟨w.heap.size, 3, none⟩ = some (J zq d) ∧ w'.cell? ⟨w.heap.size + 1, 0, none⟩ = some (J zq x) ∧ w'.cell? ⟨w.heap.size + 1, 1, none⟩ = some (J zq y) ∧ w'.cell? ⟨w.heap.size + 1, 2, none⟩ = some (J zq z)) (first | (go_keep; done) | (refine ⟨?_, ?_, ?_, ?_, ?_, ?_, ?_⟩ <;> (rw [World.cell?_setCell_far _ _ _ _ (by dsimp only; omega), World.cell?_setCell_far _ _ _ _ (by dsimp only; omega), World.cell?_setCell_far _ _ _ _ (by dsimp only; omega), World.cell?_setCell_far _ _ _ _ (by dsimp only; omega), World.cell?_setCell_far _ _ _ _ (by dsimp only; omega), World.cell?_setCell_far _ _ _ _ (by dsimp only; omega), World.cell?_setCell_far _ _ _ _ (by dsimp only; omega), World.cell?_setCell_far _ _ _ _ (by dsimp only; omega)]; with_reducible assumption)) | skip) (first | (have gg := Y5; clear gg; go_at_call 64; refine (T2.out _ _ _ (((h3.ext (Ext.trans xa x4)).ext (Ext.trans xa x5)).ext xa) (h5.ext xa)).mono ?_; rintro e wv6 ⟨⟨ov6, rfl, h6⟩, x6⟩; have Y6 : Ext w3 wv6 := Ext.trans xa x6; have qq06 := (QB.out.ext Y6).c 0 rfl; have qq16 := (QB.out.ext Y6).c 1 rfl; have qq26 := (QB.out.ext Y6).c 2 rfl; have qq36 := (QB.out.ext Y6).c 3 rfl; have qv06 := (VB.out.ext Y6).c 0 rfl; have qv16 := (VB.out.ext Y6).c 1 rfl; have qv26 := (VB.out.ext Y6).c 2 rfl; have lq6 := (QB.out.ext Y6).1; have lv6 := (VB.out.ext Y6).1; have ne6a := Nat.ne_of_lt lq6; have ne6b := Nat.ne_of_gt lq6; have ne6c := Nat.ne_of_lt lv6; have ne6d := Nat.ne_of_gt lv6; (first | (have N : Hid (w3.heap.size ≤ _ ∧ HV wv6 _ [.bool false, .slice none 0 0, .bool false, .slice none 0 0, .bool false, .slice none 0 0, .bool false, .slice none 0 0]) := nb_ext N.out (Ext.trans xa x6)) | ((with_reducible have N0 := nb_new (vs := [.bool false, .slice none 0 0, .bool false, .slice none 0 0, .bool false, .slice none 0 0, .bool false, .slice none 0 0]) (show Ext w3 _ by repeat (first | with_reducible assumption | with_reducible exact Ext.refl _ | with_reducible refine Ext.drew ?_ | with_reducible refine Ext.drewN ?_ _ | with_reducible refine Ext.alloc ?_ _ | with_reducible refine Ext.set ?_ (by first | exact Nat.le_refl _ | (dsimp only; omega) | (simp; done)) _)) x6); have N : Hid (w3.heap.size ≤ _ ∧ HV wv6 _ [.bool false, .slice none 0 0, .bool false, .slice none 0 0, .bool false, .slice none 0 0, .bool false, .slice none 0 0]) := N0; clear N0) | ((with_reducible have N0 := nb_drew (vs := [.bool false, .slice none 0 0, .bool false, .slice none 0 0, .bool false, .slice none 0 0, .bool false, .slice none 0 0]) (show Ext w3 _ by repeat (first | with_reducible assumption | with_reducible exact Ext.refl _ | with_reducible refine Ext.drew ?_ | with_reducible refine Ext.drewN ?_ _ | with_reducible refine Ext.alloc ?_ _ | with_reducible refine Ext.set ?_ (by first | exact Nat.le_refl _ | (dsimp only; omega) | (simp; done)) _)) x6); have N : Hid (w3.heap.size ≤ _ ∧ HV wv6 _ [.bool false, .slice none 0 0, .bool false, .slice none 0 0, .bool false, .slice none 0 0, .bool false, .slice none 0 0]) := N0; clear N0) | skip); clear qq05 qq15 qq25 qq35 qv05 qv15 qv25; obtain ⟨b0, b1, b2, b3, a0, a1, a2, a3, l0, k0, l1, k1, l2, k2, l3, k3, rfl, j0, j1, j2, j3⟩ := h6; have K0 : Hid (IsI wv6 (zG #[.bool b0, .slice a0 l0 k0]) r0) := j0; clear j0; have K1 : Hid (IsI wv6 (zG #[.bool b1, .slice a1 l1 k1]) r1) := j1; clear j1; have K2 : Hid (IsI wv6 (zG #[.bool b2, .slice a2 l2 k2]) r2) := j2; clear j2; have K3 : Hid (IsI wv6 (zG #[.bool b3, .slice a3 l3 k3]) r3) := j3; clear j3; (first | (have n0 := N.out.2.c 0 rfl; have f0 := N.out.2.f 0 rfl; have n1 := N.out.2.c 1 rfl; have f1 := N.out.2.f 1 rfl; have n2 := N.out.2.c 2 rfl; have f2 := N.out.2.f 2 rfl; have n3 := N.out.2.c 3 rfl; have f3 := N.out.2.f 3 rfl; have n4 := N.out.2.c 4 rfl; have f4 := N.out.2.f 4 rfl; have n5 := N.out.2.c 5 rfl; have f5 := N.out.2.f 5 rfl; have n6 := N.out.2.c 6 rfl; have f6 := N.out.2.f 6 rfl; have n7 := N.out.2.c 7 rfl; have f7 := N.out.2.f 7 rfl) | skip)) | (go_at_call_of 65 (Value.agg #[Value.int IntKind.i64 a, Value.int IntKind.i64 nb, Value.int IntKind.i64 nc, Value.int IntKind.i64 nd]); refine (O3.out _).mono ?_; rintro e wv5 ⟨⟨ov5, rfl, h5⟩, x5⟩; have Y5 : Ext w3 wv5 := Ext.trans xa x5; have qq05 := (QB.out.ext Y5).c 0 rfl; have qq15 := (QB.out.ext Y5).c 1 rfl; have qq25 := (QB.out.ext Y5).c 2 rfl; have qq35 := (QB.out.ext Y5).c 3 rfl; have qv05 := (VB.out.ext Y5).c 0 rfl; have qv15 := (VB.out.ext Y5).c 1 rfl; have qv25 := (VB.out.ext Y5).c 2 rfl; have lq5 := (QB.out.ext Y5).1; have lv5 := (VB.out.ext Y5).1; have ne5a := Nat.ne_of_lt lq5; have ne5b := Nat.ne_of_gt lq5; have ne5c := Nat.ne_of_lt lv5; have ne5d := Nat.ne_of_gt lv5; (first | (have N : Hid (w3.heap.size ≤ _ ∧ HV wv5 _ [.bool false, .slice none 0 0, .bool false, .slice none 0 0, .bool false, .slice none 0 0, .bool false, .slice none 0 0]) := nb_ext N.out (Ext.trans xa x5)) | ((with_reducible have N0 := nb_new (vs := [.bool false, .slice none 0 0, .bool false, .slice none 0 0, .bool false, .slice none 0 0, .bool false, .slice none 0 0]) (show Ext w3 _ by repeat (first | with_reducible assumption | with_reducible exact Ext.refl _ | with_reducible refine Ext.drew ?_ | with_reducible refine Ext.drewN ?_ _ | with_reducible refine Ext.alloc ?_ _ | with_reducible refine Ext.set ?_ (by first | exact Nat.le_refl _ | (dsimp only; omega) | (simp; done)) _)) x5); have N : Hid (w3.heap.size ≤ _ ∧ HV wv5 _ [.bool false, .slice none 0 0, .bool false, .slice none 0 0, .bool false, .slice none 0 0, .bool false, .slice none 0 0]) := N0; clear N0) | ((with_reducible have N0 := nb_drew (vs := [.bool false, .slice none 0 0, .bool false, .slice none 0 0, .bool false, .slice none 0 0, .bool false, .slice none 0 0]) (show Ext w3 _ by repeat (first | with_reducible assumption | with_reducible exact Ext.refl _ | with_reducible refine Ext.drew ?_ | with_reducible refine Ext.drewN ?_ _ | with_reducible refine Ext.alloc ?_ _ | with_reducible refine Ext.set ?_ (by first | exact Nat.le_refl _ | (dsimp only; omega) | (simp; done)) _)) x5); have N : Hid (w3.heap.size ≤ _ ∧ HV wv5 _ [.bool false, .slice none 0 0, .bool false, .slice none 0 0, .bool false, .slice none 0 0, .bool false, .slice none 0 0]) := N0; clear N0) | skip); clear qq04 qq14 qq24 qq34 qv04 qv14 qv24) | (go_at_call 74; refine (HC.out _).mono ?_; rintro e wv4 ⟨rfl, x4⟩; have Y4 : Ext w3 wv4 := Ext.trans xa x4; have qq04 := (QB.out.ext Y4).c 0 rfl; have qq14 := (QB.out.ext Y4).c 1 rfl; have qq24 := (QB.out.ext Y4).c 2 rfl; have qq34 := (QB.out.ext Y4).c 3 rfl; have qv04 := (VB.out.ext Y4).c 0 rfl; have qv14 := (VB.out.ext Y4).c 1 rfl; have qv24 := (VB.out.ext Y4).c 2 rfl; have lq4 := (QB.out.ext Y4).1; have lv4 := (VB.out.ext Y4).1; have ne4a := Nat.ne_of_lt lq4; have ne4b := Nat.ne_of_gt lq4; have ne4c := Nat.ne_of_lt lv4; have ne4d := Nat.ne_of_gt lv4; (first | (have N : Hid (w3.heap.size ≤ _ ∧ HV wv4 _ [.bool false, .slice none 0 0, .bool false, .slice none 0 0, .bool false, .slice none 0 0, .bool false, .slice none 0 0]) := nb_ext N.out (Ext.trans xa x4)) | ((with_reducible have N0 := nb_new (vs := [.bool false, .slice none 0 0, .bool false, .slice none 0 0, .bool false, .slice none 0 0, .bool false, .slice none 0 0]) (show Ext w3 _ by repeat (first | with_reducible assumption | with_reducible exact Ext.refl _ | with_reducible refine Ext.drew ?_ | with_reducible refine Ext.drewN ?_ _ | with_reducible refine Ext.alloc ?_ _ | with_reducible refine Ext.set ?_ (by first | exact Nat.le_refl _ | (dsimp only; omega) | (simp; done)) _)) x4); have N : Hid (w3.heap.size ≤ _ ∧ HV wv4 _ [.bool false, .slice none 0 0, .bool false, .slice none 0 0, .bool false, .slice none 0 0, .bool false, .slice none 0 0]) := N0; clear N0) | ((with_reducible have N0 := nb_drew (vs := [.bool false, .slice none 0 0, .bool false, .slice none 0 0, .bool false, .slice none 0 0, .bool false, .slice none 0 0]) (show Ext w3 _ by repeat (first | with_reducible assumption | with_reducible exact Ext.refl _ | with_reducible refine Ext.drew ?_ | with_reducible refine Ext.drewN ?_ _ | with_reducible refine Ext.alloc ?_ _ | with_reducible refine Ext.set ?_ (by first | exact Nat.le_refl _ | (dsimp only; omega) | (simp; done)) _)) x4); have N : Hid (w3.heap.size ≤ _ ∧ HV wv4 _ [.bool false, .slice none 0 0, .bool false, .slice none 0 0, .bool false, .slice none 0 0, .bool false, .slice none 0 0]) := N0; clear N0) | skip); clear qq03 qq13 qq23 qq33 qv03 qv13 qv23) | (have gg := Y2; clear gg; go_at_call 64; refine (T1.out _ _ _ ((h1.ext (Ext.trans xa x2)).ext xa) (h2.ext xa)).mono ?_; rintro e wv3 ⟨⟨ov3, rfl, h3⟩, x3⟩; have Y3 : Ext w3 wv3 := Ext.trans xa x3; have qq03 := (QB.out.ext Y3).c 0 rfl; have qq13 := (QB.out.ext Y3).c 1 rfl; have qq23 := (QB.out.ext Y3).c 2 rfl; have qq33 := (QB.out.ext Y3).c 3 rfl; have qv03 := (VB.out.ext Y3).c 0 rfl; have qv13 := (VB.out.ext Y3).c 1 rfl; have qv23 := (VB.out.ext Y3).c 2 rfl; have lq3 := (QB.out.ext Y3).1; have lv3 := (VB.out.ext Y3).1; have ne3a := Nat.ne_of_lt lq3; have ne3b := Nat.ne_of_gt lq3; have ne3c := Nat.ne_of_lt lv3; have ne3d := Nat.ne_of_gt lv3; (first | (have N : Hid (w3.heap.size ≤ _ ∧ HV wv3 _ [.bool false, .slice none 0 0, .bool false, .slice none 0 0, .bool false, .slice none 0 0, .bool false, .slice none 0 0]) := nb_ext N.out (Ext.trans xa x3)) | ((with_reducible have N0 := nb_new (vs := [.bool false, .slice none 0 0, .bool false, .slice none 0 0, .bool false, .slice none 0 0, .bool false, .slice none 0 0]) (show Ext w3 _ by repeat (first | with_reducible assumption | with_reducible exact Ext.refl _ | with_reducible refine Ext.drew ?_ | with_reducible refine Ext.drewN ?_ _ | with_reducible refine Ext.alloc ?_ _ | with_reducible refine Ext.set ?_ (by first | exact Nat.le_refl _ | (dsimp only; omega) | (simp; done)) _)) x3); have N : Hid (w3.heap.size ≤ _ ∧ HV wv3 _ [.bool false, .slice none 0 0, .bool false, .slice none 0 0, .bool false, .slice none 0 0, .bool false, .slice none 0 0]) := N0; clear N0) | ((with_reducible have N0 := nb_drew (vs := [.bool false, .slice none 0 0, .bool false, .slice none 0 0, .bool false, .slice none 0 0, .bool false, .slice none 0 0]) (show Ext w3 _ by repeat (first | with_reducible assumption | with_reducible exact Ext.refl _ | with_reducible refine Ext.drew ?_ | with_reducible refine Ext.drewN ?_ _ | with_reducible refine Ext.alloc ?_ _ | with_reducible refine Ext.set ?_ (by first | exact Nat.le_refl _ | (dsimp only; omega) | (simp; done)) _)) x3); have N : Hid (w3.heap.size ≤ _ ∧ HV wv3 _ [.bool false, .slice none 0 0, .bool false, .slice none 0 0, .bool false, .slice none 0 0, .bool false, .slice none 0 0]) := N0; clear N0) | skip); clear qq02 qq12 qq22 qq32 qv02 qv12 qv22) | (go_at_call_of 65 (Value.agg #[Value.int IntKind.i64 0, Value.int IntKind.i64 x, Value.int IntKind.i64 y, Value.int IntKind.i64 z]); refine (O2.out _).mono ?_; rintro e wv2 ⟨⟨ov2, rfl, h2⟩, x2⟩; have Y2 : Ext w3 wv2 := Ext.trans xa x2; have qq02 := (QB.out.ext Y2).c 0 rfl; have qq12 := (QB.out.ext Y2).c 1 rfl; have qq22 := (QB.out.ext Y2).c 2 rfl; have qq32 := (QB.out.ext Y2).c 3 rfl; have qv02 := (VB.out.ext Y2).c 0 rfl; have qv12 := (VB.out.ext Y2).c 1 rfl; have qv22 := (VB.out.ext Y2).c 2 rfl; have lq2 := (QB.out.ext Y2).1; have lv2 := (VB.out.ext Y2).1; have ne2a := Nat.ne_of_lt lq2; have ne2b := Nat.ne_of_gt lq2; have ne2c := Nat.ne_of_lt lv2; have ne2d := Nat.ne_of_gt lv2; (first | (have N : Hid (w3.heap.size ≤ _ ∧ HV wv2 _ [.bool false, .slice none 0 0, .bool false, .slice none 0 0, .bool false, .slice none 0 0, .bool false, .slice none 0 0]) := nb_ext N.out (Ext.trans xa x2)) | ((with_reducible have N0 := nb_new (vs := [.bool false, .slice none 0 0, .bool false, .slice none 0 0, .bool false, .slice none 0 0, .bool false, .slice none 0 0]) (show Ext w3 _ by repeat (first | with_reducible assumption | with_reducible exact Ext.refl _ | with_reducible refine Ext.drew ?_ | with_reducible refine Ext.drewN ?_ _ | with_reducible refine Ext.alloc ?_ _ | with_reducible refine Ext.set ?_ (by first | exact Nat.le_refl _ | (dsimp only; omega) | (simp; done)) _)) x2); have N : Hid (w3.heap.size ≤ _ ∧ HV wv2 _ [.bool false, .slice none 0 0, .bool false, .slice none 0 0, .bool false, .slice none 0 0, .bool false, .slice none 0 0]) := N0; clear N0) | ((with_reducible have N0 := nb_drew (vs := [.bool false, .slice none 0 0, .bool false, .slice none 0 0, .bool false, .slice none 0 0, .bool false, .slice none 0 0]) (show Ext w3 _ by repeat (first | with_reducible assumption | with_reducible exact Ext.refl _ | with_reducible refine Ext.drew ?_ | with_reducible refine Ext.drewN ?_ _ | with_reducible refine Ext.alloc ?_ _ | with_reducible refine Ext.set ?_ (by first | exact Nat.le_refl _ | (dsimp only; omega) | (simp; done)) _)) x2); have N : Hid (w3.heap.size ≤ _ ∧ HV wv2 _ [.bool false, .slice none 0 0, .bool false, .slice none 0 0, .bool false, .slice none 0 0, .bool false, .slice none 0 0]) := N0; clear N0) | skip); clear qq01 qq11 qq21 qq31 qv01 qv11 qv21) | (go_at_call_of 65 (Value.agg #[Value.int IntKind.i64 a, Value.int IntKind.i64 b, Value.int IntKind.i64 c, Value.int IntKind.i64 d]); refine (O1.out _).mono ?_; rintro e wv1 ⟨⟨ov1, rfl, h1⟩, x1⟩; have Y1 : Ext w3 wv1 := Ext.trans xa x1; have qq01 := (QB.out.ext Y1).c 0 rfl; have qq11 := (QB.out.ext Y1).c 1 rfl; have qq21 := (QB.out.ext Y1).c 2 rfl; have qq31 := (QB.out.ext Y1).c 3 rfl; have qv01 := (VB.out.ext Y1).c 0 rfl; have qv11 := (VB.out.ext Y1).c 1 rfl; have qv21 := (VB.out.ext Y1).c 2 rfl; have lq1 := (QB.out.ext Y1).1; have lv1 := (VB.out.ext Y1).1; have ne1a := Nat.ne_of_lt lq1; have ne1b := Nat.ne_of_gt lq1; have ne1c := Nat.ne_of_lt lv1; have ne1d := Nat.ne_of_gt lv1; (first | (have N : Hid (w3.heap.size ≤ _ ∧ HV wv1 _ [.bool false, .slice none 0 0, .bool false, .slice none 0 0, .bool false, .slice none 0 0, .bool false, .slice none 0 0]) := nb_ext N.out (Ext.trans xa x1)) | ((with_reducible have N0 := nb_new (vs := [.bool false, .slice none 0 0, .bool false, .slice none 0 0, .bool false, .slice none 0 0, .bool false, .slice none 0 0]) (show Ext w3 _ by repeat (first | with_reducible assumption | with_reducible exact Ext.refl _ | with_reducible refine Ext.drew ?_ | with_reducible refine Ext.drewN ?_ _ | with_reducible refine Ext.alloc ?_ _ | with_reducible refine Ext.set ?_ (by first | exact Nat.le_refl _ | (dsimp only; omega) | (simp; done)) _)) x1); have N : Hid (w3.heap.size ≤ _ ∧ HV wv1 _ [.bool false, .slice none 0 0, .bool false, .slice none 0 0, .bool false, .slice none 0 0, .bool false, .slice none 0 0]) := N0; clear N0) | ((with_reducible have N0 := nb_drew (vs := [.bool false, .slice none 0 0, .bool false, .slice none 0 0, .bool false, .slice none 0 0, .bool false, .slice none 0 0]) (show Ext w3 _ by repeat (first | with_reducible assumption | with_reducible exact Ext.refl _ | with_reducible refine Ext.drew ?_ | with_reducible refine Ext.drewN ?_ _ | with_reducible refine Ext.alloc ?_ _ | with_reducible refine Ext.set ?_ (by first | exact Nat.le_refl _ | (dsimp only; omega) | (simp; done)) _)) x1); have N : Hid (w3.heap.size ≤ _ ∧ HV wv1 _ [.bool false, .slice none 0 0, .bool false, .slice none 0 0, .bool false, .slice none 0 0, .bool false, .slice none 0 0]) := N0; clear N0) | skip); clear qq0 qq1 qq2 qq3 qv0 qv1 qv2))
    all_goals
      go_wp2_with fail
      go_meet
      first
        | (have gg := N; clear gg; exact ⟨_, _, _, _, _, _, _, _, _, _, _, _, _, _, _, _, _, rfl, N.out.1, ((((((((N.out.2.set 0 _).set 1 _).set 2 _).set 3 _).set 4 _).set 5 _).set 6 _).set 7 _), K0.out.put8 N.out.2 _ _ _ _ _ _ _ _, K1.out.put8 N.out.2 _ _ _ _ _ _ _ _, K2.out.put8 N.out.2 _ _ _ _ _ _ _ _, K3.out.put8 N.out.2 _ _ _ _ _ _ _ _, ((((((((Y6.set (p := ⟨_, 0, none⟩) N.out.1 _).set (p := ⟨_, 1, none⟩) N.out.1 _).set (p := ⟨_, 2, none⟩) N.out.1 _).set (p := ⟨_, 3, none⟩) N.out.1 _).set (p := ⟨_, 4, none⟩) N.out.1 _).set (p := ⟨_, 5, none⟩) N.out.1 _).set (p := ⟨_, 6, none⟩) N.out.1 _).set (p := ⟨_, 7, none⟩) N.out.1 _)⟩)
        | exact ⟨wv6.heap.size, _, _, _, _, _, _, _, _, _, _, _, _, _, _, _, _, rfl, Y6.size, hv_at rfl, K0.out.ext ((Ext.refl _).alloc _), K1.out.ext ((Ext.refl _).alloc _), K2.out.ext ((Ext.refl _).alloc _), K3.out.ext ((Ext.refl _).alloc _), Y6.alloc _⟩
  case rest =>
    obtain ⟨gp, b0, b1, b2, b3, a0, a1, a2, a3, l0, k0, l1, k1, l2, k2, l3, k3, rfl, hG, PB, K0, K1, K2, K3, hE⟩ := hcut
    have IN : Hid (IsI wc (zG #[.bool bn, .slice an ln cn]) N) := IN.out.ext hE.out
    have NB : Hid (HV wc nn [.bool bn, .slice an ln cn]) := NB.out.ext hE.out
    have RB : Hid (HV wc (w.heap.size + 1 + 1) [J zq 0, J zq 0, J zq 0]) := RB.out.ext hE.out
    have E0 := exx E0 hE.out
    clear QB VB K0 O1 O2 O3 HC T1 T2 hE
    generalize wc = w4 at *
    have c0 := PB.out.c 2 rfl
    have c1 := PB.out.c 3 rfl
    have g0 := NB.out.c 0 rfl
    have g1 := NB.out.c 1 rfl
    go_upto_region 6 with (first | (go_at_call 61; refine (V1.out _ _ _ K1.out IN.out).mono ?_; rintro e wo1 ⟨⟨qo, rfl, ho⟩, xo⟩) | (go_at_call 60; refine (N1.out _ _ ho).mono ?_; rintro e wn1 ⟨rfl, xn⟩))
    have hx : Hid (Ext w4 wn1) := xo.trans xn
    have PB : Hid (HV wn1 gp [.bool b0, .slice a0 l0 k0, .bool b1, .slice a1 l1 k1, .bool b2, .slice a2 l2 k2, .bool b3, .slice a3 l3 k3]) := PB.out.ext hx.out
    have RB : Hid (HV wn1 (w.heap.size + 1 + 1) [J zq 0, J zq 0, J zq 0]) := RB.out.ext hx.out
    have NB : Hid (HV wn1 nn [.bool bn, .slice an ln cn]) := NB.out.ext hx.out
    have IN : Hid (IsI wn1 (zG #[.bool bn, .slice an ln cn]) N) := IN.out.ext hx.out
    have E0 := exx E0 hx.out
    have K2 : Hid (IsI wn1 (zG #[.bool b2, .slice a2 l2 k2]) r2) := K2.out.ext hx.out
    have K3 : Hid (IsI wn1 (zG #[.bool b3, .slice a3 l3 k3]) r3) := K3.out.ext hx.out
    clear c0 c1 g0 g1 hx xo xn ho K1 V1 N1
    have c0 := PB.out.c 4 rfl
    have c1 := PB.out.c 5 rfl
    have g0 := NB.out.c 0 rfl
    have g1 := NB.out.c 1 rfl
    go_upto_region 7 with (first | (go_at_call 61; refine (V2.out _ _ _ K2.out IN.out).mono ?_; rintro e wo2 ⟨⟨qo, rfl, ho⟩, xo⟩) | (go_at_call 60; refine (N2.out _ _ ho).mono ?_; rintro e wn2 ⟨rfl, xn⟩))
    have hx : Hid (Ext wn1 wn2) := xo.trans xn
    have PB : Hid (HV wn2 gp [.bool b0, .slice a0 l0 k0, .bool b1, .slice a1 l1 k1, .bool b2, .slice a2 l2 k2, .bool b3, .slice a3 l3 k3]) := PB.out.ext hx.out
    have RB : Hid (HV wn2 (w.heap.size + 1 + 1) [J zq 0, J zq 0, J zq 0]) := RB.out.ext hx.out
    have NB : Hid (HV wn2 nn [.bool bn, .slice an ln cn]) := NB.out.ext hx.out
    have IN : Hid (IsI wn2 (zG #[.bool bn, .slice an ln cn]) N) := IN.out.ext hx.out
    have E0 := exx E0 hx.out
    have K3 : Hid (IsI wn2 (zG #[.bool b3, .slice a3 l3 k3]) r3) := K3.out.ext hx.out
    clear c0 c1 g0 g1 hx xo xn ho K2 V2 N2
    have c0 := PB.out.c 6 rfl
    have c1 := PB.out.c 7 rfl
    have g0 := NB.out.c 0 rfl
    have g1 := NB.out.c 1 rfl
    go_upto_region 8 with (first | (go_at_call 61; refine (V3.out _ _ _ K3.out IN.out).mono ?_; rintro e wo3 ⟨⟨qo, rfl, ho⟩, xo⟩) | (go_at_call 60; refine (N3.out _ _ ho).mono ?_; rintro e wn3 ⟨rfl, xn⟩))
    have hx : Hid (Ext wn2 wn3) := xo.trans xn
    have PB : Hid (HV wn3 gp [.bool b0, .slice a0 l0 k0, .bool b1, .slice a1 l1 k1, .bool b2, .slice a2 l2 k2, .bool b3, .slice a3 l3 k3]) := PB.out.ext hx.out
    have RB : Hid (HV wn3 (w.heap.size + 1 + 1) [J zq 0, J zq 0, J zq 0]) := RB.out.ext hx.out
    have NB : Hid (HV wn3 nn [.bool bn, .slice an ln cn]) := NB.out.ext hx.out
    have IN : Hid (IsI wn3 (zG #[.bool bn, .slice an ln cn]) N) := IN.out.ext hx.out
    have E0 := exx E0 hx.out
    clear c0 c1 g0 g1 hx xo xn ho K3 V3 N3
    go_wp2_with fail
    refine (HT.out _).mono ?_
    rintro e w8 ⟨rfl, x8⟩
    have RB : Hid (HV w8 (w.heap.size + 1 + 1) [J zq 0, J zq 0, J zq 0]) := RB.out.ext x8
    have E0 := exx E0 x8
    clear x8 PB NB IN
    have z0 := RB.out.c 0 rfl
    have y0 := RB.out.f 0 rfl
    have z1 := RB.out.c 1 rfl
    have y1 := RB.out.f 1 rfl
    have z2 := RB.out.c 2 rfl
    have y2 := RB.out.f 2 rfl
    have rl := RB.out.1
    go_wp2_with fail
    exact bodyPost_ret (v := .tuple #[zG #[J zq s0, J zq s1, J zq s2], J zq es]) (by simp [results, Tryz.results35, go_sem, z0, z1, z2]) rfl ⟨rfl, (((E0.out.set (p := ⟨w.heap.size + 1 + 1, 0, none⟩) (by dsimp only; omega) _).set (p := ⟨w.heap.size + 1 + 1, 1, none⟩) (by dsimp only; omega) _).set (p := ⟨w.heap.size + 1 + 1, 2, none⟩) (by dsimp only; omega) _)⟩
set_option maxRecDepth 20000 in
set_option maxHeartbeats 16000000 in
theorem rturn_nought (a b c d x y z N : Int) (w : World) (HD : Hid (∀ w', Calls zP 19 #[zG #[J zq a, J zq b, J zq c, J zq d]] w' fun e w'' => (∃ r, e = zR r ∧ IsI w'' r (N)) ∧ Ext w' w'')) (HZ : Hid (∀ r w', IsI w' r N → Calls zP 68 #[r] w' fun e w'' => e = zR (.bool true) ∧ Ext w' w'')) :
    Calls zP 35 #[zG #[J zq a, J zq b, J zq c, J zq d], zG #[J zq x, J zq y, J zq z]] w fun e w'' => e = zR (.tuple #[zG #[J zq 0, J zq 0, J zq 0], J zq 3]) ∧ Ext w w'' := by
  have QB : Hid (HV (((w.alloc (.cells #[J zq a, J zq b, J zq c, J zq d] 24)).alloc (.cells #[J zq x, J zq y, J zq z] 28)).alloc (.cells #[J zq 0, J zq 0, J zq 0] 28)) w.heap.size [J zq a, J zq b, J zq c, J zq d]) := HV.alloc (HV.alloc (hv_at rfl) _) _
  have VB : Hid (HV (((w.alloc (.cells #[J zq a, J zq b, J zq c, J zq d] 24)).alloc (.cells #[J zq x, J zq y, J zq z] 28)).alloc (.cells #[J zq 0, J zq 0, J zq 0] 28)) (w.heap.size + 1) [J zq x, J zq y, J zq z]) := HV.alloc (hv_at (by simp)) _
  have RB : Hid (HV (((w.alloc (.cells #[J zq a, J zq b, J zq c, J zq d] 24)).alloc (.cells #[J zq x, J zq y, J zq z] 28)).alloc (.cells #[J zq 0, J zq 0, J zq 0] 28)) (w.heap.size + 1 + 1) [J zq 0, J zq 0, J zq 0]) := hv_at (by simp)
  have E0 : Hid (Ext w (((w.alloc (.cells #[J zq a, J zq b, J zq c, J zq d] 24)).alloc (.cells #[J zq x, J zq y, J zq z] 28)).alloc (.cells #[J zq 0, J zq 0, J zq 0] 28))) := (((Ext.refl _).alloc _).alloc _).alloc _
  go_enter Tryz.func35, Tryz.ntmps35
  go_upto_region 1 with fail
  generalize (((w.alloc (.cells #[J zq a, J zq b, J zq c, J zq d] 24)).alloc (.cells #[J zq x, J zq y, J zq z] 28)).alloc (.cells #[J zq 0, J zq 0, J zq 0] 28)) = wB at *
  have q0 := QB.out.c 0 rfl
  have q1 := QB.out.c 1 rfl
  have q2 := QB.out.c 2 rfl
  have q3 := QB.out.c 3 rfl
  go_wp2_with fail
  refine (HD.out _).mono ?_
  rintro e w1 ⟨⟨r, rfl, hr⟩, x1⟩
  obtain ⟨bn, an, ln, cn, rfl⟩ := hr.form
  have QB : Hid (HV w1 w.heap.size [J zq a, J zq b, J zq c, J zq d]) := QB.out.ext x1
  have VB : Hid (HV w1 (w.heap.size + 1) [J zq x, J zq y, J zq z]) := VB.out.ext x1
  have RB : Hid (HV w1 (w.heap.size + 1 + 1) [J zq 0, J zq 0, J zq 0]) := RB.out.ext x1
  have E0 := exx E0 x1
  clear x1 HD q0 q1 q2 q3
  go_upto_region 2 with fail
  have NB : Hid (HV (w1.alloc (.cells #[.bool bn, .slice an ln cn] 50)) w1.heap.size [.bool bn, .slice an ln cn]) := hv_at rfl
  have lr : w.heap.size + 1 + 1 < w1.heap.size := RB.out.1
  have IN : Hid (IsI (w1.alloc (.cells #[.bool bn, .slice an ln cn] 50)) (zG #[.bool bn, .slice an ln cn]) N) := hr.ext ((Ext.refl _).alloc _)
  have QB : Hid (HV (w1.alloc (.cells #[.bool bn, .slice an ln cn] 50)) w.heap.size [J zq a, J zq b, J zq c, J zq d]) := QB.out.alloc _
  have VB : Hid (HV (w1.alloc (.cells #[.bool bn, .slice an ln cn] 50)) (w.heap.size + 1) [J zq x, J zq y, J zq z]) := VB.out.alloc _
  have RB : Hid (HV (w1.alloc (.cells #[.bool bn, .slice an ln cn] 50)) (w.heap.size + 1 + 1) [J zq 0, J zq 0, J zq 0]) := RB.out.alloc _
  have E0 := exl E0 (.cells #[.bool bn, .slice an ln cn] 50)
  clear hr
  generalize w1.alloc (.cells #[.bool bn, .slice an ln cn] 50) = w2 at *
  generalize w1.heap.size = nn at *
  have n0 := NB.out.c 0 rfl
  have n1 := NB.out.c 1 rfl
  go_upto_region 3 with (go_at_call 68; refine (HZ.out _ _ IN.out).mono ?_; rintro e w3 ⟨rfl, x3⟩)
  have RB : Hid (HV w3 (w.heap.size + 1 + 1) [J zq 0, J zq 0, J zq 0]) := RB.out.ext x3
  have E0 := exx E0 x3
  clear x3 n0 n1 HZ IN NB QB VB
  have z0 := RB.out.c 0 rfl
  have y0 := RB.out.f 0 rfl
  have z1 := RB.out.c 1 rfl
  have y1 := RB.out.f 1 rfl
  have z2 := RB.out.c 2 rfl
  have y2 := RB.out.f 2 rfl
  have rl := RB.out.1
  go_wp2_with fail
  exact bodyPost_ret (v := .tuple #[zG #[J zq 0, J zq 0, J zq 0], J zq 3]) (by simp [results, Tryz.results35, go_sem, z0, z1, z2]) rfl ⟨rfl, (((E0.out.set (p := ⟨w.heap.size + 1 + 1, 0, none⟩) (by dsimp only; omega) _).set (p := ⟨w.heap.size + 1 + 1, 1, none⟩) (by dsimp only; omega) _).set (p := ⟨w.heap.size + 1 + 1, 2, none⟩) (by dsimp only; omega) _)⟩
set_option maxRecDepth 20000 in
set_option maxHeartbeats 8000000 in
theorem rback_raw (a b c d x y z nb nc nd s0 s1 s2 es : Int) (w : World) (HC : Hid (∀ w', Calls zP 74 #[zG #[J zq a, J zq b, J zq c, J zq d]] w' fun e w'' => e = zR (zG #[J zq a, J zq nb, J zq nc, J zq nd]) ∧ Ext w' w'')) (HT : Hid (∀ w', Calls zP 35 #[zG #[J zq a, J zq nb, J zq nc, J zq nd], zG #[J zq x, J zq y, J zq z]] w' fun e w'' => e = zR (.tuple #[zG #[J zq s0, J zq s1, J zq s2], J zq es]) ∧ Ext w' w'')) :
    Calls zP 73 #[zG #[J zq a, J zq b, J zq c, J zq d], zG #[J zq x, J zq y, J zq z]] w fun e w'' => e = zR (.tuple #[zG #[J zq s0, J zq s1, J zq s2], J zq es]) ∧ Ext w w'' := by
  have QB : Hid (HV (((w.alloc (.cells #[J zq a, J zq b, J zq c, J zq d] 24)).alloc (.cells #[J zq x, J zq y, J zq z] 28)).alloc (.cells #[J zq 0, J zq 0, J zq 0] 28)) w.heap.size [J zq a, J zq b, J zq c, J zq d]) := HV.alloc (HV.alloc (hv_at rfl) _) _
  have VB : Hid (HV (((w.alloc (.cells #[J zq a, J zq b, J zq c, J zq d] 24)).alloc (.cells #[J zq x, J zq y, J zq z] 28)).alloc (.cells #[J zq 0, J zq 0, J zq 0] 28)) (w.heap.size + 1) [J zq x, J zq y, J zq z]) := HV.alloc (hv_at (by simp)) _
  have RB : Hid (HV (((w.alloc (.cells #[J zq a, J zq b, J zq c, J zq d] 24)).alloc (.cells #[J zq x, J zq y, J zq z] 28)).alloc (.cells #[J zq 0, J zq 0, J zq 0] 28)) (w.heap.size + 1 + 1) [J zq 0, J zq 0, J zq 0]) := hv_at (by simp)
  have E0 : Hid (Ext w (((w.alloc (.cells #[J zq a, J zq b, J zq c, J zq d] 24)).alloc (.cells #[J zq x, J zq y, J zq z] 28)).alloc (.cells #[J zq 0, J zq 0, J zq 0] 28))) := (((Ext.refl _).alloc _).alloc _).alloc _
  go_enter Tryz.func73, Tryz.ntmps73
  go_upto_region 1 with fail
  generalize (((w.alloc (.cells #[J zq a, J zq b, J zq c, J zq d] 24)).alloc (.cells #[J zq x, J zq y, J zq z] 28)).alloc (.cells #[J zq 0, J zq 0, J zq 0] 28)) = wB at *
  have qq0 := QB.out.c 0 rfl
  have qq1 := QB.out.c 1 rfl
  have qq2 := QB.out.c 2 rfl
  have qq3 := QB.out.c 3 rfl
  have qv0 := VB.out.c 0 rfl
  have qv1 := VB.out.c 1 rfl
  have qv2 := VB.out.c 2 rfl
  have lq := QB.out.1
  have lv := VB.out.1
  go_region_held3 (fun w' => w'.cell? ⟨w.heap.size, 0, none⟩ = some (J zq a) ∧ w'.cell? ⟨w.heap.size, 1, none⟩ = some (J zq b) ∧ w'.cell? ⟨w.heap.size, 2, none⟩ = some (J zq c) ∧ w'.cell? ⟨w.heap.size, 3, none⟩ = some (J zq d) ∧ w'.cell? ⟨w.heap.size + 1, 0, none⟩ = some (J zq x) ∧ w'.cell? ⟨w.heap.size + 1, 1, none⟩ = some (J zq y) ∧ w'.cell? ⟨w.heap.size + 1, 2, none⟩ = some (J zq z)) (first | (go_keep; done) | (refine ⟨?_, ?_, ?_, ?_, ?_, ?_, ?_⟩ <;> (rw [World.cell?_setCell_far _ _ _ _ (by dsimp only; omega), World.cell?_setCell_far _ _ _ _ (by dsimp only; omega), World.cell?_setCell_far _ _ _ _ (by dsimp only; omega)]; with_reducible assumption)) | skip) (first | (go_at_call 74; refine (HC.out _).mono ?_; rintro e wv1 ⟨rfl, x1⟩; have Y1 : Ext wB wv1 := Ext.trans xa x1; have qq01 := (QB.out.ext Y1).c 0 rfl; have qq11 := (QB.out.ext Y1).c 1 rfl; have qq21 := (QB.out.ext Y1).c 2 rfl; have qq31 := (QB.out.ext Y1).c 3 rfl; have qv01 := (VB.out.ext Y1).c 0 rfl; have qv11 := (VB.out.ext Y1).c 1 rfl; have qv21 := (VB.out.ext Y1).c 2 rfl; have lq1 := (QB.out.ext Y1).1; have lv1 := (VB.out.ext Y1).1) | (go_at_call 35; refine (HT.out _).mono ?_; rintro e wv2 ⟨rfl, x2⟩; have Y2 : Ext wB wv2 := Ext.trans xa x2; have qq02 := (QB.out.ext Y2).c 0 rfl; have qq12 := (QB.out.ext Y2).c 1 rfl; have qq22 := (QB.out.ext Y2).c 2 rfl; have qq32 := (QB.out.ext Y2).c 3 rfl; have qv02 := (VB.out.ext Y2).c 0 rfl; have qv12 := (VB.out.ext Y2).c 1 rfl; have qv22 := (VB.out.ext Y2).c 2 rfl; have lq2 := (QB.out.ext Y2).1; have lv2 := (VB.out.ext Y2).1; have z0 := (RB.out.ext Y2).c 0 rfl; have y0 := (RB.out.ext Y2).f 0 rfl; have z1 := (RB.out.ext Y2).c 1 rfl; have y1 := (RB.out.ext Y2).f 1 rfl; have z2 := (RB.out.ext Y2).c 2 rfl; have y2 := (RB.out.ext Y2).f 2 rfl; have rl := (RB.out.ext Y2).1))
  all_goals
    have E1 : Ext w wv2 := E0.out.trans Y2
    go_wp2_with fail
    exact bodyPost_ret (v := .tuple #[zG #[J zq s0, J zq s1, J zq s2], J zq es]) (by simp [results, Tryz.results73, go_sem, z0, z1, z2]) rfl ⟨rfl, (((E1.set (p := ⟨w.heap.size + 1 + 1, 0, none⟩) (by dsimp only; omega) _).set (p := ⟨w.heap.size + 1 + 1, 1, none⟩) (by dsimp only; omega) _).set (p := ⟨w.heap.size + 1 + 1, 2, none⟩) (by dsimp only; omega) _)⟩
theorem sq4_fit {a b c d : Int} (h : ok4 a b c d = true) : Fit 95 (a * a + b * b + c * c + d * d) := by
  obtain ⟨ha, hb, hc, hd⟩ := ok4_parts h
  have fa := (fitW ha).mul (fitW ha)
  have fb := (fitW hb).mul (fitW hb)
  have fc := (fitW hc).mul (fitW hc)
  have fd := (fitW hd).mul (fitW hd)
  exact ((fa.add fb).add (fc.le (by omega))).add (fd.le (by omega))
theorem zero4 {a b c d : Int} (h : ok4 a b c d = true) (r : Value) (w : World) (hr : IsI w r (a * a + b * b + c * c + d * d)) : Calls zP 68 #[r] w fun e w' => e = zR (.bool (decide (a = 0 ∧ b = 0 ∧ c = 0 ∧ d = 0))) ∧ Ext w w' := by
  have H := zero_isI _ r w hr ((sq4_fit h).small (by omega))
  have e : decide (a * a + b * b + c * c + d * d = 0) = decide (a = 0 ∧ b = 0 ∧ c = 0 ∧ d = 0) := by
    by_cases hz : a = 0 ∧ b = 0 ∧ c = 0 ∧ d = 0
    · obtain ⟨rfl, rfl, rfl, rfl⟩ := hz
      decide
    · have hp := sq4_pos hz
      have e := sq4_int a b c d
      rw [decide_eq_false hz, decide_eq_false]
      omega
  rw [e] at H
  exact H
theorem turn_assoc (a b c d x y z : Int) : (qx (qw a b c d 0 x y z) (qx a b c d 0 x y z) (qy a b c d 0 x y z) (qz a b c d 0 x y z) a (-b) (-c) (-d)) = tnx a b c d x y z ∧ (qy (qw a b c d 0 x y z) (qx a b c d 0 x y z) (qy a b c d 0 x y z) (qz a b c d 0 x y z) a (-b) (-c) (-d)) = tny a b c d x y z ∧ (qz (qw a b c d 0 x y z) (qx a b c d 0 x y z) (qy a b c d 0 x y z) (qz a b c d 0 x y z) a (-b) (-c) (-d)) = tnz a b c d x y z := by
  refine ⟨?_, ?_, ?_⟩
  · unfold tnx qw qx qy qz; grind
  · unfold tny qw qx qy qz; grind
  · unfold tnz qw qx qy qz; grind
theorem rturn_any (a b c d x y z : Int) (w : World) (h : ok4 a b c d = true) (k : ok3 x y z = true) :
    Calls zP 35 #[zG #[J zq a, J zq b, J zq c, J zq d], zG #[J zq x, J zq y, J zq z]] w fun e w'' => e = zR (turnR a b c d x y z) ∧ Ext w w'' := by
  unfold turnR
  rw [h, k, if_pos (by rfl)]
  by_cases hz : a = 0 ∧ b = 0 ∧ c = 0 ∧ d = 0
  · rw [if_pos hz]
    exact rturn_nought a b c d x y z _ w (fun w' => rsquares_any a b c d w' h) (fun r w' i => by have H := zero4 h r w' i; rw [decide_eq_true hz] at H; exact H)
  · rw [if_neg hz]
    obtain ⟨ha, hb, hc, hd⟩ := ok4_parts h
    obtain ⟨kx, ky, kz⟩ := ok3_parts k
    have k0 : okW 0 = true := by decide
    have nb := neg_okW hb
    have nc := neg_okW hc
    have nd := neg_okW hd
    obtain ⟨f0, f1, f2, f3⟩ := qw_fit (fitW ha) (fitW hb) (fitW hc) (fitW hd) (fitW k0) (fitW kx) (fitW ky) (fitW kz)
    obtain ⟨g0, g1, g2, g3⟩ := qw_fit f0 f1 f2 f3 (fitW ha) (fitW nb) (fitW nc) (fitW nd)
    obtain ⟨t1, t2, t3⟩ := turn_assoc a b c d x y z
    have hN := sq4_pos hz
    have eN := sq4_int a b c d
    have fN := sq4_fit h
    have nr : ∀ t : Int, IsNear (over t (a * a + b * b + c * c + d * d)) ((a * a + b * b + c * c + d * d).natAbs : Int) (nearI t (sq4 a b c d)) := fun t => by
      rw [eN, over_pos _ _ (by omega), Int.natAbs_natCast]
      exact nearI_spec _ _ (by omega)
    have hNz : a * a + b * b + c * c + d * d ≠ 0 := by rw [eN]; omega
    rw [t1] at g1
    rw [t2] at g2
    rw [t3] at g3
    obtain ⟨n1, d1, V1, N1⟩ := over_near (tnx a b c d x y z) (a * a + b * b + c * c + d * d) _ 144 hNz (by omega) g1 (fN.le (by omega)) (nr _)
    obtain ⟨n2, d2, V2, N2⟩ := over_near (tny a b c d x y z) (a * a + b * b + c * c + d * d) _ 144 hNz (by omega) g2 (fN.le (by omega)) (nr _)
    obtain ⟨n3, d3, V3, N3⟩ := over_near (tnz a b c d x y z) (a * a + b * b + c * c + d * d) _ 144 hNz (by omega) g3 (fN.le (by omega)) (nr _)
    have HT := fun w' => three_any (nearI (tnx a b c d x y z) (sq4 a b c d)) (nearI (tny a b c d x y z) (sq4 a b c d)) (nearI (tnz a b c d x y z) (sq4 a b c d)) w'
    obtain ⟨s0, s1, s2, es, hr⟩ := vres_shape (nearI (tnx a b c d x y z) (sq4 a b c d)) (nearI (tny a b c d x y z) (sq4 a b c d)) (nearI (tnz a b c d x y z) (sq4 a b c d))
    rw [hr] at HT ⊢
    refine rturn_raw a b c d x y z (-b) (-c) (-d) (a * a + b * b + c * c + d * d) (qw a b c d 0 x y z) (qx a b c d 0 x y z) (qy a b c d 0 x y z) (qz a b c d 0 x y z) (qw (qw a b c d 0 x y z) (qx a b c d 0 x y z) (qy a b c d 0 x y z) (qz a b c d 0 x y z) a (-b) (-c) (-d)) (tnx a b c d x y z) (tny a b c d x y z) (tnz a b c d x y z) n1 n2 n3 _ _ _ _ _ _ s0 s1 s2 es d1 d2 d3 w
      (fun w' => rsquares_any a b c d w' h) (fun r w' i => by have H := zero4 h r w' i; rw [decide_eq_false hz] at H; exact H)
      (fun w' => fof_any a b c d w' ha hb hc hd) (fun w' => fof_any 0 x y z w' k0 kx ky kz) (fun w' => rconj_any a b c d w' h) (fun w' => fof_any a (-b) (-c) (-d) w' ha nb nc nd)
      (fun v1 v2 w' i1 i2 => ftimes_any a b c d 0 x y z 46 46 v1 v2 w' i1 i2 (by omega) (fitW ha) (fitW hb) (fitW hc) (fitW hd) (fitW k0) (fitW kx) (fitW ky) (fitW kz)) (fun v1 v2 w' i1 i2 => ?_) V1 N1 V2 N2 V3 N3 HT
    have H := ftimes_any (qw a b c d 0 x y z) (qx a b c d 0 x y z) (qy a b c d 0 x y z) (qz a b c d 0 x y z) a (-b) (-c) (-d) 95 46 v1 v2 w' i1 i2 (by omega) f0 f1 f2 f3 (fitW ha) (fitW nb) (fitW nc) (fitW nd)
    rw [t1, t2, t3] at H
    exact H
theorem rback_any (a b c d x y z : Int) (w : World) (h : ok4 a b c d = true) (k : ok3 x y z = true) :
    Calls zP 73 #[zG #[J zq a, J zq b, J zq c, J zq d], zG #[J zq x, J zq y, J zq z]] w fun e w'' => e = zR (turnR a (-b) (-c) (-d) x y z) ∧ Ext w w'' := by
  obtain ⟨ha, hb, hc, hd⟩ := ok4_parts h
  have h' : ok4 a (-b) (-c) (-d) = true := by unfold ok4; rw [ha, neg_okW hb, neg_okW hc, neg_okW hd]; rfl
  have HT := fun w' => rturn_any a (-b) (-c) (-d) x y z w' h' k
  obtain ⟨s0, s1, s2, e, he⟩ := turnR_shape a (-b) (-c) (-d) x y z
  rw [he] at HT ⊢
  exact rback_raw a b c d x y z (-b) (-c) (-d) s0 s1 s2 e w (fun w' => rconj_any a b c d w' h) HT
theorem runitq_any (a b c d : Int) (k0 k1 k2 k3 : Nat) (w : World) (h : ok4 a b c d = true) (hz : ¬ (a = 0 ∧ b = 0 ∧ c = 0 ∧ d = 0))
    (q0 : RootQ (a.natAbs * a.natAbs * 1152921504606846976) (sq4 a b c d) k0) (q1 : RootQ (b.natAbs * b.natAbs * 1152921504606846976) (sq4 a b c d) k1) (q2 : RootQ (c.natAbs * c.natAbs * 1152921504606846976) (sq4 a b c d) k2) (q3 : RootQ (d.natAbs * d.natAbs * 1152921504606846976) (sq4 a b c d) k3) :
    Calls zP 66 #[zG #[J zq a, J zq b, J zq c, J zq d]] w fun e w'' => e = zR (qres (sgd a k0) (sgd b k1) (sgd c k2) (sgd d k3)) ∧ Ext w w'' := by
  obtain ⟨ha, hb, hc, hd⟩ := ok4_parts h
  have n0 := sq4_pos hz
  obtain ⟨l0, l1, l2, l3⟩ := le_sq4 a b c d
  have m0 := unit_k_le n0 l0 q0; have m1 := unit_k_le n0 l1 q1; have m2 := unit_k_le n0 l2 q2; have m3 := unit_k_le n0 l3 q3
  have eN := sq4_int a b c d
  have fN : Fit 100 ((sq4 a b c d : Nat) : Int) := by rw [← eN]; exact (sq4_fit h).le (by omega)
  have HS := fun w' => rsquares_any a b c d w' h
  have HZ := fun r w' (i : IsI w' r (a * a + b * b + c * c + d * d)) => zero4 h r w' i
  rw [decide_eq_false hz] at HZ
  rw [eN] at HS HZ
  obtain ⟨s0, s1, s2, es, u0, u1, u2, u3, eu, HT, HQ, hq⟩ := quat_any (sgd a k0) (sgd b k1) (sgd c k2) (sgd d k3)
  rw [hq]
  exact runitq_raw a b c d _ _ _ _ _ _ _ _ _ _ _ _ _ _ _ _ ((sq4 a b c d : Nat) : Int) s0 s1 s2 es u0 u1 u2 u3 eu w HS HZ
    (fun w' => from_any a w' (word64 ha).1 (word64 ha).2) (fun r w' i => left30 ha r w' i) (fun r1 r2 w' i1 i2 => over_unit ha n0 fN q0 r1 r2 w' i1 i2) (fun r w' i => word_any _ r w' i ((sgd_fit m0).small (by omega)))
    (fun w' => from_any b w' (word64 hb).1 (word64 hb).2) (fun r w' i => left30 hb r w' i) (fun r1 r2 w' i1 i2 => over_unit hb n0 fN q1 r1 r2 w' i1 i2) (fun r w' i => word_any _ r w' i ((sgd_fit m1).small (by omega)))
    (fun w' => from_any c w' (word64 hc).1 (word64 hc).2) (fun r w' i => left30 hc r w' i) (fun r1 r2 w' i1 i2 => over_unit hc n0 fN q2 r1 r2 w' i1 i2) (fun r w' i => word_any _ r w' i ((sgd_fit m2).small (by omega)))
    (fun w' => from_any d w' (word64 hd).1 (word64 hd).2) (fun r w' i => left30 hd r w' i) (fun r1 r2 w' i1 i2 => over_unit hd n0 fN q3 r1 r2 w' i1 i2) (fun r w' i => word_any _ r w' i ((sgd_fit m3).small (by omega)))
    HT HQ
end Go.Proofs.YtoeecldhbabmbaaGreat
