/- gimbalref3: Exact, Conj, Shift, Product. -/
import Derived.Test.YtoeecldhbabmbaaGreatMg45
import Derived.Test.YtoeecldhbabmbaaGreatMg25
import Derived.Deep.RegionHeld3
open Go.Value renaming int → J, agg → zG
open Go.IntKind renaming i64 → zq
open Go.Ending renaming returned → zR
open Go.Proofs.Tryz renaming prog → zP
namespace Go.Proofs.YtoeecldhbabmbaaGreat
open Go.RowKit Go.Shelf
set_option maxRecDepth 20000 in
set_option maxHeartbeats 8000000 in
theorem rexact_raw (a b c d x y z t T0 T1 T2 T3 : Int) (w : World) (O1 : Hid (∀ w', Calls zP 65 #[zG #[J zq a, J zq b, J zq c, J zq d]] w' fun e w'' => (∃ r, e = zR r ∧ IsFour w'' r a b c d) ∧ Ext w' w'')) (O2 : Hid (∀ w', Calls zP 65 #[zG #[J zq x, J zq y, J zq z, J zq t]] w' fun e w'' => (∃ r, e = zR r ∧ IsFour w'' r x y z t) ∧ Ext w' w''))
    (TT : Hid (∀ v1 v2 w', IsFour w' v1 a b c d → IsFour w' v2 x y z t → Calls zP 64 #[v1, v2] w' fun e w'' => (∃ r, e = zR r ∧ IsFour w'' r T0 T1 T2 T3) ∧ Ext w' w'')) :
    Calls zP 27 #[zG #[J zq a, J zq b, J zq c, J zq d], zG #[J zq x, J zq y, J zq z, J zq t]] w fun e w' => (∃ r, e = zR r ∧ IsFour w' r T0 T1 T2 T3) ∧ Ext w w' := by
  have Bp : Hid (HV (((w.alloc (.cells #[J zq a, J zq b, J zq c, J zq d] 24)).alloc (.cells #[J zq x, J zq y, J zq z, J zq t] 24)).alloc (.cells #[.bool false, .slice none 0 0, .bool false, .slice none 0 0, .bool false, .slice none 0 0, .bool false, .slice none 0 0] 63)) w.heap.size [J zq a, J zq b, J zq c, J zq d]) := HV.alloc (HV.alloc (hv_at rfl) _) _
  have Bq : Hid (HV (((w.alloc (.cells #[J zq a, J zq b, J zq c, J zq d] 24)).alloc (.cells #[J zq x, J zq y, J zq z, J zq t] 24)).alloc (.cells #[.bool false, .slice none 0 0, .bool false, .slice none 0 0, .bool false, .slice none 0 0, .bool false, .slice none 0 0] 63)) (w.heap.size + 1) [J zq x, J zq y, J zq z, J zq t]) := HV.alloc (hv_at (by simp)) _
  have Br : Hid (HV (((w.alloc (.cells #[J zq a, J zq b, J zq c, J zq d] 24)).alloc (.cells #[J zq x, J zq y, J zq z, J zq t] 24)).alloc (.cells #[.bool false, .slice none 0 0, .bool false, .slice none 0 0, .bool false, .slice none 0 0, .bool false, .slice none 0 0] 63)) (w.heap.size + 1 + 1) [.bool false, .slice none 0 0, .bool false, .slice none 0 0, .bool false, .slice none 0 0, .bool false, .slice none 0 0]) := hv_at (by simp)
  have E0 : Hid (Ext w (((w.alloc (.cells #[J zq a, J zq b, J zq c, J zq d] 24)).alloc (.cells #[J zq x, J zq y, J zq z, J zq t] 24)).alloc (.cells #[.bool false, .slice none 0 0, .bool false, .slice none 0 0, .bool false, .slice none 0 0, .bool false, .slice none 0 0] 63))) := (((Ext.refl _).alloc _).alloc _).alloc _
  go_enter Tryz.func27, Tryz.ntmps27
  go_upto_region 1 with fail
  generalize (((w.alloc (.cells #[J zq a, J zq b, J zq c, J zq d] 24)).alloc (.cells #[J zq x, J zq y, J zq z, J zq t] 24)).alloc (.cells #[.bool false, .slice none 0 0, .bool false, .slice none 0 0, .bool false, .slice none 0 0, .bool false, .slice none 0 0] 63)) = wB at *
  have qp0 := Bp.out.c 0 rfl
  have qq0 := Bq.out.c 0 rfl
  have qp1 := Bp.out.c 1 rfl
  have qq1 := Bq.out.c 1 rfl
  have qp2 := Bp.out.c 2 rfl
  have qq2 := Bq.out.c 2 rfl
  have qp3 := Bp.out.c 3 rfl
  have qq3 := Bq.out.c 3 rfl
  have lp := Bp.out.1
  have lq := Bq.out.1
  go_region_held3 (fun w' => w'.cell? ⟨w.heap.size, 0, none⟩ = some (J zq a) ∧ w'.cell? ⟨w.heap.size, 1, none⟩ = some (J zq b) ∧ w'.cell? ⟨w.heap.size, 2, none⟩ = some (J zq c) ∧ w'.cell? ⟨w.heap.size, 3, none⟩ = some (J zq d) ∧ w'.cell? ⟨w.heap.size + 1, 0, none⟩ = some (J zq x) ∧ w'.cell? ⟨w.heap.size + 1, 1, none⟩ = some (J zq y) ∧ w'.cell? ⟨w.heap.size + 1, 2, none⟩ = some (J zq z) ∧ w'.cell? ⟨w.heap.size + 1, 3, none⟩ = some (J zq t)) (first | (go_keep; done) | (refine ⟨?_, ?_, ?_, ?_, ?_, ?_, ?_, ?_⟩ <;> (rw [World.cell?_setCell_far _ _ _ _ (by dsimp only; omega), World.cell?_setCell_far _ _ _ _ (by dsimp only; omega), World.cell?_setCell_far _ _ _ _ (by dsimp only; omega), World.cell?_setCell_far _ _ _ _ (by dsimp only; omega), World.cell?_setCell_far _ _ _ _ (by dsimp only; omega), World.cell?_setCell_far _ _ _ _ (by dsimp only; omega), World.cell?_setCell_far _ _ _ _ (by dsimp only; omega), World.cell?_setCell_far _ _ _ _ (by dsimp only; omega)]; with_reducible assumption)) | skip) (first | (go_at_call_of 65 (Value.agg #[Value.int IntKind.i64 a, Value.int IntKind.i64 b, Value.int IntKind.i64 c, Value.int IntKind.i64 d]); refine (O1.out _).mono ?_; rintro e wa ⟨⟨ra, rfl, ha⟩, xa⟩; have Ya : Ext wB wa := Ext.trans eX xa; have qp0a := (Bp.out.ext Ya).c 0 rfl; have qq0a := (Bq.out.ext Ya).c 0 rfl; have qp1a := (Bp.out.ext Ya).c 1 rfl; have qq1a := (Bq.out.ext Ya).c 1 rfl; have qp2a := (Bp.out.ext Ya).c 2 rfl; have qq2a := (Bq.out.ext Ya).c 2 rfl; have qp3a := (Bp.out.ext Ya).c 3 rfl; have qq3a := (Bq.out.ext Ya).c 3 rfl; have lpa := (Bp.out.ext Ya).1; have lqa := (Bq.out.ext Ya).1) | (go_at_call_of 65 (Value.agg #[Value.int IntKind.i64 x, Value.int IntKind.i64 y, Value.int IntKind.i64 z, Value.int IntKind.i64 t]); refine (O2.out _).mono ?_; rintro e wb ⟨⟨rb, rfl, hb⟩, xb⟩; have Yb : Ext wB wb := Ext.trans eX xb; have qp0b := (Bp.out.ext Yb).c 0 rfl; have qq0b := (Bq.out.ext Yb).c 0 rfl; have qp1b := (Bp.out.ext Yb).c 1 rfl; have qq1b := (Bq.out.ext Yb).c 1 rfl; have qp2b := (Bp.out.ext Yb).c 2 rfl; have qq2b := (Bq.out.ext Yb).c 2 rfl; have qp3b := (Bp.out.ext Yb).c 3 rfl; have qq3b := (Bq.out.ext Yb).c 3 rfl; have lpb := (Bp.out.ext Yb).1; have lqb := (Bq.out.ext Yb).1) | (go_at_call 64; refine (TT.out _ _ _ ((ha.ext (Ext.trans eX xb)).ext eX) (hb.ext eX)).mono ?_; rintro e wt ⟨⟨rt, rfl, ht⟩, xt⟩; have Yt : Ext wB wt := Ext.trans eX xt; have qp0t := (Bp.out.ext Yt).c 0 rfl; have qq0t := (Bq.out.ext Yt).c 0 rfl; have qp1t := (Bp.out.ext Yt).c 1 rfl; have qq1t := (Bq.out.ext Yt).c 1 rfl; have qp2t := (Bp.out.ext Yt).c 2 rfl; have qq2t := (Bq.out.ext Yt).c 2 rfl; have qp3t := (Bp.out.ext Yt).c 3 rfl; have qq3t := (Bq.out.ext Yt).c 3 rfl; have lpt := (Bp.out.ext Yt).1; have lqt := (Bq.out.ext Yt).1; obtain ⟨b0, b1, b2, b3, a0, a1, a2, a3, l0, k0, l1, k1, l2, k2, l3, k3, rfl, j0, j1, j2, j3⟩ := ht; have K0 : Hid (IsI wt (zG #[.bool b0, .slice a0 l0 k0]) T0) := j0; clear j0; have K1 : Hid (IsI wt (zG #[.bool b1, .slice a1 l1 k1]) T1) := j1; clear j1; have K2 : Hid (IsI wt (zG #[.bool b2, .slice a2 l2 k2]) T2) := j2; clear j2; have K3 : Hid (IsI wt (zG #[.bool b3, .slice a3 l3 k3]) T3) := j3; clear j3; have z0 := (Br.out.ext Yt).c 0 rfl; have y0 := (Br.out.ext Yt).f 0 rfl; have z1 := (Br.out.ext Yt).c 1 rfl; have y1 := (Br.out.ext Yt).f 1 rfl; have z2 := (Br.out.ext Yt).c 2 rfl; have y2 := (Br.out.ext Yt).f 2 rfl; have z3 := (Br.out.ext Yt).c 3 rfl; have y3 := (Br.out.ext Yt).f 3 rfl; have z4 := (Br.out.ext Yt).c 4 rfl; have y4 := (Br.out.ext Yt).f 4 rfl; have z5 := (Br.out.ext Yt).c 5 rfl; have y5 := (Br.out.ext Yt).f 5 rfl; have z6 := (Br.out.ext Yt).c 6 rfl; have y6 := (Br.out.ext Yt).f 6 rfl; have z7 := (Br.out.ext Yt).c 7 rfl; have y7 := (Br.out.ext Yt).f 7 rfl; have rl := (Br.out.ext Yt).1))
  all_goals
    have RB := Br.out.ext Yt
    have E1 : Ext w wt := E0.out.trans Yt
    go_wp2_with fail
    exact bodyPost_ret (v := zG #[.bool b0, .slice a0 l0 k0, .bool b1, .slice a1 l1 k1, .bool b2, .slice a2 l2 k2, .bool b3, .slice a3 l3 k3]) (by simp [results, Tryz.results27, go_sem, z0, z1, z2, z3, z4, z5, z6, z7]) rfl ⟨⟨_, rfl, _, _, _, _, _, _, _, _, _, _, _, _, _, _, _, _, rfl, K0.out.put8 RB _ _ _ _ _ _ _ _, K1.out.put8 RB _ _ _ _ _ _ _ _, K2.out.put8 RB _ _ _ _ _ _ _ _, K3.out.put8 RB _ _ _ _ _ _ _ _⟩, ((((((((E1.set (p := ⟨w.heap.size + 1 + 1, 0, none⟩) (by dsimp only; omega) _).set (p := ⟨w.heap.size + 1 + 1, 1, none⟩) (by dsimp only; omega) _).set (p := ⟨w.heap.size + 1 + 1, 2, none⟩) (by dsimp only; omega) _).set (p := ⟨w.heap.size + 1 + 1, 3, none⟩) (by dsimp only; omega) _).set (p := ⟨w.heap.size + 1 + 1, 4, none⟩) (by dsimp only; omega) _).set (p := ⟨w.heap.size + 1 + 1, 5, none⟩) (by dsimp only; omega) _).set (p := ⟨w.heap.size + 1 + 1, 6, none⟩) (by dsimp only; omega) _).set (p := ⟨w.heap.size + 1 + 1, 7, none⟩) (by dsimp only; omega) _)⟩
theorem rexact_any (a b c d x y z t : Int) (w : World) (h : ok4 a b c d = true) (k : ok4 x y z t = true) :
    Calls zP 27 #[zG #[J zq a, J zq b, J zq c, J zq d], zG #[J zq x, J zq y, J zq z, J zq t]] w fun e w'' => (∃ r, e = zR r ∧ IsFour w'' r (qw a b c d x y z t) (qx a b c d x y z t) (qy a b c d x y z t) (qz a b c d x y z t)) ∧ Ext w w'' := by
  obtain ⟨ha, hb, hc, hd⟩ := ok4_parts h
  obtain ⟨kx, ky, kz, kt⟩ := ok4_parts k
  exact rexact_raw a b c d x y z t _ _ _ _ w (fun w' => fof_any a b c d w' ha hb hc hd) (fun w' => fof_any x y z t w' kx ky kz kt)
    (fun v1 v2 w' i1 i2 => ftimes_any a b c d x y z t 46 46 v1 v2 w' i1 i2 (by omega) (fitW ha) (fitW hb) (fitW hc) (fitW hd) (fitW kx) (fitW ky) (fitW kz) (fitW kt))
set_option maxHeartbeats 4000000 in
theorem rconj_any (a b c d : Int) (w : World) (h : ok4 a b c d = true) :
    Calls zP 74 #[zG #[J zq a, J zq b, J zq c, J zq d]] w fun e w'' => e = zR (zG #[J zq a, J zq (-b), J zq (-c), J zq (-d)]) ∧ Ext w w'' := by
  obtain ⟨g0, g1, g2, g3⟩ := ok4_parts h
  obtain ⟨b00, b01⟩ := okW_bounds g0
  obtain ⟨b10, b11⟩ := okW_bounds g1
  obtain ⟨b20, b21⟩ := okW_bounds g2
  obtain ⟨b30, b31⟩ := okW_bounds g3
  clear h g0 g1 g2 g3
  go_enter Tryz.func74, Tryz.ntmps74
  go_wp2_with fail
  exact bodyPost_ret (v := zG #[J zq a, J zq (-b), J zq (-c), J zq (-d)]) (by simp [results, Tryz.results74, go_sem]) rfl ⟨rfl, eX⟩
set_option maxRecDepth 20000 in
set_option maxHeartbeats 16000000 in
theorem rshift_raw (b0 b1 b2 b3 : Bool) (a0 a1 a2 a3 : Option Addr) (l0 k0 l1 k1 l2 k2 l3 k3 : Nat) (z0 z1 z2 z3 bits D n0 n1 n2 n3 p0 p1 p2 p3 e0 e1 e2 e3 s0 s1 s2 es u0 u1 u2 u3 eu : Int) (d0 d1 d2 d3 : Nat) (w : World) (J0 : Hid (IsI w (zG #[.bool b0, .slice a0 l0 k0]) z0)) (J1 : Hid (IsI w (zG #[.bool b1, .slice a1 l1 k1]) z1)) (J2 : Hid (IsI w (zG #[.bool b2, .slice a2 l2 k2]) z2)) (J3 : Hid (IsI w (zG #[.bool b3, .slice a3 l3 k3]) z3)) (HF : Hid (∀ w', Calls zP 24 #[J zq 1] w' fun e w'' => (∃ r, e = zR r ∧ IsI w'' r (1)) ∧ Ext w' w'')) (HL : Hid (∀ r w', IsI w' r 1 → Calls zP 59 #[r, J zq bits] w' fun e w'' => (∃ r, e = zR r ∧ IsI w'' r (D)) ∧ Ext w' w'')) (O0 : Hid (∀ r1 r2 w', IsI w' r1 z0 → IsI w' r2 D → Calls zP 61 #[r1, r2] w' fun e w'' => (∃ q, e = zR q ∧ IsQ w'' q n0 d0) ∧ Ext w' w'')) (N0 : Hid (∀ q w', IsQ w' q n0 d0 → Calls zP 60 #[q] w' fun e w'' => e = zR (.tuple #[J zq p0, J zq e0]) ∧ Ext w' w'')) (O1 : Hid (∀ r1 r2 w', IsI w' r1 z1 → IsI w' r2 D → Calls zP 61 #[r1, r2] w' fun e w'' => (∃ q, e = zR q ∧ IsQ w'' q n1 d1) ∧ Ext w' w'')) (N1 : Hid (∀ q w', IsQ w' q n1 d1 → Calls zP 60 #[q] w' fun e w'' => e = zR (.tuple #[J zq p1, J zq e1]) ∧ Ext w' w'')) (O2 : Hid (∀ r1 r2 w', IsI w' r1 z2 → IsI w' r2 D → Calls zP 61 #[r1, r2] w' fun e w'' => (∃ q, e = zR q ∧ IsQ w'' q n2 d2) ∧ Ext w' w'')) (N2 : Hid (∀ q w', IsQ w' q n2 d2 → Calls zP 60 #[q] w' fun e w'' => e = zR (.tuple #[J zq p2, J zq e2]) ∧ Ext w' w'')) (O3 : Hid (∀ r1 r2 w', IsI w' r1 z3 → IsI w' r2 D → Calls zP 61 #[r1, r2] w' fun e w'' => (∃ q, e = zR q ∧ IsQ w'' q n3 d3) ∧ Ext w' w'')) (N3 : Hid (∀ q w', IsQ w' q n3 d3 → Calls zP 60 #[q] w' fun e w'' => e = zR (.tuple #[J zq p3, J zq e3]) ∧ Ext w' w'')) (HT : Hid (∀ w', Calls zP 62 #[J zq p1, J zq e1, J zq p2, J zq e2, J zq p3, J zq e3] w' fun e w'' => e = zR (.tuple #[zG #[J zq s0, J zq s1, J zq s2], J zq es]) ∧ Ext w' w'')) (HQ : Hid (∀ w', Calls zP 63 #[J zq p0, J zq e0, zG #[J zq s0, J zq s1, J zq s2], J zq es] w' fun e w'' => e = zR (.tuple #[zG #[J zq u0, J zq u1, J zq u2, J zq u3], J zq eu]) ∧ Ext w' w'')) :
    Calls zP 26 #[zG #[.bool b0, .slice a0 l0 k0, .bool b1, .slice a1 l1 k1, .bool b2, .slice a2 l2 k2, .bool b3, .slice a3 l3 k3], J zq bits] w fun e w' => e = zR (.tuple #[zG #[J zq u0, J zq u1, J zq u2, J zq u3], J zq eu]) ∧ Ext w w' := by
  have PB : Hid (HV ((w.alloc (.cells #[.bool b0, .slice a0 l0 k0, .bool b1, .slice a1 l1 k1, .bool b2, .slice a2 l2 k2, .bool b3, .slice a3 l3 k3] 63)).alloc (.cells #[J zq 0, J zq 0, J zq 0, J zq 0] 24)) w.heap.size [.bool b0, .slice a0 l0 k0, .bool b1, .slice a1 l1 k1, .bool b2, .slice a2 l2 k2, .bool b3, .slice a3 l3 k3]) := HV.alloc (hv_at rfl) _
  have RB : Hid (HV ((w.alloc (.cells #[.bool b0, .slice a0 l0 k0, .bool b1, .slice a1 l1 k1, .bool b2, .slice a2 l2 k2, .bool b3, .slice a3 l3 k3] 63)).alloc (.cells #[J zq 0, J zq 0, J zq 0, J zq 0] 24)) (w.heap.size + 1) [J zq 0, J zq 0, J zq 0, J zq 0]) := hv_at (by simp)
  have E0 : Hid (Ext w ((w.alloc (.cells #[.bool b0, .slice a0 l0 k0, .bool b1, .slice a1 l1 k1, .bool b2, .slice a2 l2 k2, .bool b3, .slice a3 l3 k3] 63)).alloc (.cells #[J zq 0, J zq 0, J zq 0, J zq 0] 24))) := ((Ext.refl _).alloc _).alloc _
  have J0 : Hid (IsI ((w.alloc (.cells #[.bool b0, .slice a0 l0 k0, .bool b1, .slice a1 l1 k1, .bool b2, .slice a2 l2 k2, .bool b3, .slice a3 l3 k3] 63)).alloc (.cells #[J zq 0, J zq 0, J zq 0, J zq 0] 24)) (zG #[.bool b0, .slice a0 l0 k0]) z0) := J0.out.ext E0.out
  have J1 : Hid (IsI ((w.alloc (.cells #[.bool b0, .slice a0 l0 k0, .bool b1, .slice a1 l1 k1, .bool b2, .slice a2 l2 k2, .bool b3, .slice a3 l3 k3] 63)).alloc (.cells #[J zq 0, J zq 0, J zq 0, J zq 0] 24)) (zG #[.bool b1, .slice a1 l1 k1]) z1) := J1.out.ext E0.out
  have J2 : Hid (IsI ((w.alloc (.cells #[.bool b0, .slice a0 l0 k0, .bool b1, .slice a1 l1 k1, .bool b2, .slice a2 l2 k2, .bool b3, .slice a3 l3 k3] 63)).alloc (.cells #[J zq 0, J zq 0, J zq 0, J zq 0] 24)) (zG #[.bool b2, .slice a2 l2 k2]) z2) := J2.out.ext E0.out
  have J3 : Hid (IsI ((w.alloc (.cells #[.bool b0, .slice a0 l0 k0, .bool b1, .slice a1 l1 k1, .bool b2, .slice a2 l2 k2, .bool b3, .slice a3 l3 k3] 63)).alloc (.cells #[J zq 0, J zq 0, J zq 0, J zq 0] 24)) (zG #[.bool b3, .slice a3 l3 k3]) z3) := J3.out.ext E0.out
  go_enter Tryz.func26, Tryz.ntmps26
  go_upto_region 1 with fail
  generalize ((w.alloc (.cells #[.bool b0, .slice a0 l0 k0, .bool b1, .slice a1 l1 k1, .bool b2, .slice a2 l2 k2, .bool b3, .slice a3 l3 k3] 63)).alloc (.cells #[J zq 0, J zq 0, J zq 0, J zq 0] 24)) = wB at *
  go_upto_region 2 with (first | (go_at_call 24; refine (HF.out _).mono ?_; rintro e wf ⟨⟨rf, rfl, hf⟩, xf⟩) | (go_at_call 59; refine (HL.out _ _ hf).mono ?_; rintro e wl ⟨⟨rl, rfl, hl⟩, xl⟩; obtain ⟨bd, ad, ld, kd, rfl⟩ := hl.form))
  have DI : Hid (IsI (wl.alloc (.cells #[.bool bd, .slice ad ld kd] 50)) (zG #[.bool bd, .slice ad ld kd]) D) := hl.ext ((Ext.refl _).alloc _)
  have DB : Hid (HV (wl.alloc (.cells #[.bool bd, .slice ad ld kd] 50)) wl.heap.size [.bool bd, .slice ad ld kd]) := hv_at rfl
  have hy : Hid (Ext wB (wl.alloc (.cells #[.bool bd, .slice ad ld kd] 50))) := (xf.trans xl).alloc _
  have lr : w.heap.size + 1 < wl.heap.size := (RB.out.ext (xf.trans xl)).1
  have PB : Hid (HV (wl.alloc (.cells #[.bool bd, .slice ad ld kd] 50)) w.heap.size [.bool b0, .slice a0 l0 k0, .bool b1, .slice a1 l1 k1, .bool b2, .slice a2 l2 k2, .bool b3, .slice a3 l3 k3]) := PB.out.ext hy.out
  have RB : Hid (HV (wl.alloc (.cells #[.bool bd, .slice ad ld kd] 50)) (w.heap.size + 1) [J zq 0, J zq 0, J zq 0, J zq 0]) := RB.out.ext hy.out
  have E0 : Hid (Ext w (wl.alloc (.cells #[.bool bd, .slice ad ld kd] 50))) := E0.out.trans hy.out
  have J0 : Hid (IsI (wl.alloc (.cells #[.bool bd, .slice ad ld kd] 50)) (zG #[.bool b0, .slice a0 l0 k0]) z0) := J0.out.ext hy.out
  have J1 : Hid (IsI (wl.alloc (.cells #[.bool bd, .slice ad ld kd] 50)) (zG #[.bool b1, .slice a1 l1 k1]) z1) := J1.out.ext hy.out
  have J2 : Hid (IsI (wl.alloc (.cells #[.bool bd, .slice ad ld kd] 50)) (zG #[.bool b2, .slice a2 l2 k2]) z2) := J2.out.ext hy.out
  have J3 : Hid (IsI (wl.alloc (.cells #[.bool bd, .slice ad ld kd] 50)) (zG #[.bool b3, .slice a3 l3 k3]) z3) := J3.out.ext hy.out
  clear hl xf xl hf HF HL hy
  generalize (wl.alloc (.cells #[.bool bd, .slice ad ld kd] 50)) = w0 at *
  generalize wl.heap.size = nd at *
  have c0 := PB.out.c 0 rfl
  have c1 := PB.out.c 1 rfl
  have g0 := DB.out.c 0 rfl
  have g1 := DB.out.c 1 rfl
  go_upto_region 3 with (first | (go_at_call 61; refine (O0.out _ _ _ J0.out DI.out).mono ?_; rintro e wo0 ⟨⟨qo, rfl, ho⟩, xo⟩) | (go_at_call 60; refine (N0.out _ _ ho).mono ?_; rintro e wn0 ⟨rfl, xn⟩))
  have hx : Hid (Ext w0 wn0) := xo.trans xn
  have PB : Hid (HV wn0 w.heap.size [.bool b0, .slice a0 l0 k0, .bool b1, .slice a1 l1 k1, .bool b2, .slice a2 l2 k2, .bool b3, .slice a3 l3 k3]) := PB.out.ext hx.out
  have RB : Hid (HV wn0 (w.heap.size + 1) [J zq 0, J zq 0, J zq 0, J zq 0]) := RB.out.ext hx.out
  have DB : Hid (HV wn0 nd [.bool bd, .slice ad ld kd]) := DB.out.ext hx.out
  have DI : Hid (IsI wn0 (zG #[.bool bd, .slice ad ld kd]) D) := DI.out.ext hx.out
  have E0 := exx E0 hx.out
  have J1 : Hid (IsI wn0 (zG #[.bool b1, .slice a1 l1 k1]) z1) := J1.out.ext hx.out
  have J2 : Hid (IsI wn0 (zG #[.bool b2, .slice a2 l2 k2]) z2) := J2.out.ext hx.out
  have J3 : Hid (IsI wn0 (zG #[.bool b3, .slice a3 l3 k3]) z3) := J3.out.ext hx.out
  clear c0 c1 g0 g1 hx xo xn ho J0 O0 N0
  have c0 := PB.out.c 2 rfl
  have c1 := PB.out.c 3 rfl
  have g0 := DB.out.c 0 rfl
  have g1 := DB.out.c 1 rfl
  go_upto_region 4 with (first | (go_at_call 61; refine (O1.out _ _ _ J1.out DI.out).mono ?_; rintro e wo1 ⟨⟨qo, rfl, ho⟩, xo⟩) | (go_at_call 60; refine (N1.out _ _ ho).mono ?_; rintro e wn1 ⟨rfl, xn⟩))
  have hx : Hid (Ext wn0 wn1) := xo.trans xn
  have PB : Hid (HV wn1 w.heap.size [.bool b0, .slice a0 l0 k0, .bool b1, .slice a1 l1 k1, .bool b2, .slice a2 l2 k2, .bool b3, .slice a3 l3 k3]) := PB.out.ext hx.out
  have RB : Hid (HV wn1 (w.heap.size + 1) [J zq 0, J zq 0, J zq 0, J zq 0]) := RB.out.ext hx.out
  have DB : Hid (HV wn1 nd [.bool bd, .slice ad ld kd]) := DB.out.ext hx.out
  have DI : Hid (IsI wn1 (zG #[.bool bd, .slice ad ld kd]) D) := DI.out.ext hx.out
  have E0 := exx E0 hx.out
  have J2 : Hid (IsI wn1 (zG #[.bool b2, .slice a2 l2 k2]) z2) := J2.out.ext hx.out
  have J3 : Hid (IsI wn1 (zG #[.bool b3, .slice a3 l3 k3]) z3) := J3.out.ext hx.out
  clear c0 c1 g0 g1 hx xo xn ho J1 O1 N1
  have c0 := PB.out.c 4 rfl
  have c1 := PB.out.c 5 rfl
  have g0 := DB.out.c 0 rfl
  have g1 := DB.out.c 1 rfl
  go_upto_region 5 with (first | (go_at_call 61; refine (O2.out _ _ _ J2.out DI.out).mono ?_; rintro e wo2 ⟨⟨qo, rfl, ho⟩, xo⟩) | (go_at_call 60; refine (N2.out _ _ ho).mono ?_; rintro e wn2 ⟨rfl, xn⟩))
  have hx : Hid (Ext wn1 wn2) := xo.trans xn
  have PB : Hid (HV wn2 w.heap.size [.bool b0, .slice a0 l0 k0, .bool b1, .slice a1 l1 k1, .bool b2, .slice a2 l2 k2, .bool b3, .slice a3 l3 k3]) := PB.out.ext hx.out
  have RB : Hid (HV wn2 (w.heap.size + 1) [J zq 0, J zq 0, J zq 0, J zq 0]) := RB.out.ext hx.out
  have DB : Hid (HV wn2 nd [.bool bd, .slice ad ld kd]) := DB.out.ext hx.out
  have DI : Hid (IsI wn2 (zG #[.bool bd, .slice ad ld kd]) D) := DI.out.ext hx.out
  have E0 := exx E0 hx.out
  have J3 : Hid (IsI wn2 (zG #[.bool b3, .slice a3 l3 k3]) z3) := J3.out.ext hx.out
  clear c0 c1 g0 g1 hx xo xn ho J2 O2 N2
  have c0 := PB.out.c 6 rfl
  have c1 := PB.out.c 7 rfl
  have g0 := DB.out.c 0 rfl
  have g1 := DB.out.c 1 rfl
  go_upto_region 6 with (first | (go_at_call 61; refine (O3.out _ _ _ J3.out DI.out).mono ?_; rintro e wo3 ⟨⟨qo, rfl, ho⟩, xo⟩) | (go_at_call 60; refine (N3.out _ _ ho).mono ?_; rintro e wn3 ⟨rfl, xn⟩))
  have hx : Hid (Ext wn2 wn3) := xo.trans xn
  have PB : Hid (HV wn3 w.heap.size [.bool b0, .slice a0 l0 k0, .bool b1, .slice a1 l1 k1, .bool b2, .slice a2 l2 k2, .bool b3, .slice a3 l3 k3]) := PB.out.ext hx.out
  have RB : Hid (HV wn3 (w.heap.size + 1) [J zq 0, J zq 0, J zq 0, J zq 0]) := RB.out.ext hx.out
  have DB : Hid (HV wn3 nd [.bool bd, .slice ad ld kd]) := DB.out.ext hx.out
  have DI : Hid (IsI wn3 (zG #[.bool bd, .slice ad ld kd]) D) := DI.out.ext hx.out
  have E0 := exx E0 hx.out
  clear c0 c1 g0 g1 hx xo xn ho J3 O3 N3
  go_upto_region 7 with (go_at_call 62; refine (HT.out _).mono ?_; rintro e w8 ⟨rfl, x8⟩)
  have RB : Hid (HV w8 (w.heap.size + 1) [J zq 0, J zq 0, J zq 0, J zq 0]) := RB.out.ext x8
  have E0 := exx E0 x8
  have lr8 : w.heap.size + 1 < w8.heap.size := RB.out.1
  clear x8 PB DB DI
  have TB : Hid (HV (w8.alloc (.cells #[J zq s0, J zq s1, J zq s2] 28)) w8.heap.size [J zq s0, J zq s1, J zq s2]) := hv_at rfl
  have RB : Hid (HV (w8.alloc (.cells #[J zq s0, J zq s1, J zq s2] 28)) (w.heap.size + 1) [J zq 0, J zq 0, J zq 0, J zq 0]) := RB.out.alloc _
  have E0 := exl E0 (.cells #[J zq s0, J zq s1, J zq s2] 28)
  generalize w8.alloc (.cells #[J zq s0, J zq s1, J zq s2] 28) = w9 at *
  generalize w8.heap.size = nt at *
  have t0 := TB.out.c 0 rfl
  have t1 := TB.out.c 1 rfl
  have t2 := TB.out.c 2 rfl
  go_wp2_with fail
  refine (HQ.out _).mono ?_
  rintro e w10 ⟨rfl, x10⟩
  have RB : Hid (HV w10 (w.heap.size + 1) [J zq 0, J zq 0, J zq 0, J zq 0]) := RB.out.ext x10
  have E0 := exx E0 x10
  clear x10 t0 t1 t2
  have z0 := RB.out.c 0 rfl
  have y0 := RB.out.f 0 rfl
  have z1 := RB.out.c 1 rfl
  have y1 := RB.out.f 1 rfl
  have z2 := RB.out.c 2 rfl
  have y2 := RB.out.f 2 rfl
  have z3 := RB.out.c 3 rfl
  have y3 := RB.out.f 3 rfl
  have rl := RB.out.1
  go_wp2_with fail
  exact bodyPost_ret (v := .tuple #[zG #[J zq u0, J zq u1, J zq u2, J zq u3], J zq eu]) (by simp [results, Tryz.results26, go_sem, z0, z1, z2, z3]) rfl ⟨rfl, ((((E0.out.set (p := ⟨w.heap.size + 1, 0, none⟩) (Nat.le_succ _) _).set (p := ⟨w.heap.size + 1, 1, none⟩) (Nat.le_succ _) _).set (p := ⟨w.heap.size + 1, 2, none⟩) (Nat.le_succ _) _).set (p := ⟨w.heap.size + 1, 3, none⟩) (Nat.le_succ _) _)⟩
theorem quat_any (z0 z1 z2 z3 : Int) : ∃ s0 s1 s2 es u0 u1 u2 u3 eu : Int, (∀ w, Calls zP 62 #[J zq (fitR (z1)).1, J zq (fitR (z1)).2, J zq (fitR (z2)).1, J zq (fitR (z2)).2, J zq (fitR (z3)).1, J zq (fitR (z3)).2] w fun e w'' => e = zR (.tuple #[zG #[J zq s0, J zq s1, J zq s2], J zq es]) ∧ Ext w w'') ∧ (∀ w, Calls zP 63 #[J zq (fitR (z0)).1, J zq (fitR (z0)).2, zG #[J zq s0, J zq s1, J zq s2], J zq es] w fun e w'' => e = zR (.tuple #[zG #[J zq u0, J zq u1, J zq u2, J zq u3], J zq eu]) ∧ Ext w w'') ∧ qres z0 z1 z2 z3 = .tuple #[zG #[J zq u0, J zq u1, J zq u2, J zq u3], J zq eu] := by
  have T := fun w => three_any z1 z2 z3 w
  unfold vres at T
  unfold qres ok4
  cases h1 : ok3 z1 z2 z3
  · rw [h1, if_neg (by decide)] at T
    refine ⟨0, 0, 0, 2, 0, 0, 0, 0, 2, T, ?_, ?_⟩
    · rcases fit_two z0 with ⟨f2, _, _⟩ | ⟨f2, _, _⟩
      · exact fun w => quat_f _ 0 0 0 _ 2 w f2 (by decide)
      · exact fun w => quat_e _ 0 0 0 _ 2 w (by rw [f2]; decide)
    · have h1' : (okW z0 && (okW z1 && (okW z2 && okW z3))) = false := by unfold ok3 at h1; rw [h1]; exact Bool.and_false _
      rw [h1']; rfl
  · rw [h1, if_pos rfl] at T
    have h1' : (okW z1 && (okW z2 && okW z3)) = true := h1
    rw [h1', Bool.and_true]
    rcases fit_two z0 with ⟨f2, o, f1⟩ | ⟨f2, o, f1⟩
    · rw [o, if_pos rfl]
      refine ⟨z1, z2, z3, 0, z0, z1, z2, z3, 0, T, fun w => ?_, rfl⟩
      rw [f1]
      exact quat_ok z0 z1 z2 z3 _ 0 w f2 rfl
    · rw [o]
      exact ⟨z1, z2, z3, 0, 0, 0, 0, 0, 2, T, fun w => quat_e _ z1 z2 z3 _ 0 w (by rw [f2]; decide), rfl⟩
theorem over_near (x D z : Int) (k : Nat) (hD : D ≠ 0) (hk : k ≤ 2900) (f1 : Fit k x) (f2 : Fit k D) (hz : IsNear (over x D) (D.natAbs : Int) z) : ∃ (n : Int) (d : Nat), (∀ r1 r2 w', IsI w' r1 x → IsI w' r2 D → Calls zP 61 #[r1, r2] w' fun e w'' => (∃ q, e = zR q ∧ IsQ w'' q n d) ∧ Ext w' w'') ∧ (∀ q w', IsQ w' q n d → Calls zP 60 #[q] w' fun e w'' => e = zR (.tuple #[J zq (fitR (z)).1, J zq (fitR (z)).2]) ∧ Ext w' w'') := by
  have hn : D.natAbs ≠ 0 := by omega
  have g := Nat.gcd_pos_of_pos_right (over x D).natAbs (Nat.pos_of_ne_zero hn)
  have fo : Fit k (over x D) := f1.of_le (by rw [over_abs]; exact Nat.le_refl _)
  refine ⟨_, _, fun r1 r2 w' i1 i2 => over_any x D k r1 r2 w' i1 i2 hD (by omega) f1 f2, fun q w' i => ?_⟩
  have hd2 : D.natAbs / Nat.gcd (over x D).natAbs D.natAbs ≠ 0 := by
    have := Nat.div_pos (Nat.le_of_dvd (Nat.pos_of_ne_zero hn) (Nat.gcd_dvd_right (over x D).natAbs D.natAbs)) g
    omega
  have H := near1_any _ _ k z q w' i hd2 (by omega) (fo.of_le (Int.natAbs_ediv_le_natAbs _ _)) (f2.of_le (by rw [Int.natAbs_natCast]; exact Nat.div_le_self _ _)) (near_lowest _ _ hn z hz)
  rw [word_fit] at H
  exact H
theorem rshift_any (t0 t1 t2 t3 z0 z1 z2 z3 : Int) (n k : Nat) (v : Value) (w : World) (h : IsFour w v t0 t1 t2 t3) (hn : n ≤ 1000) (hk : k ≤ 1500) (hnk : n < k) (f0 : Fit k t0) (f1 : Fit k t1) (f2 : Fit k t2) (f3 : Fit k t3)
    (h0 : IsNear t0 (2 ^ n) z0) (h1 : IsNear t1 (2 ^ n) z1) (h2 : IsNear t2 (2 ^ n) z2) (h3 : IsNear t3 (2 ^ n) z3) :
    Calls zP 26 #[v, J zq (n : Int)] w fun e w'' => e = zR (qres z0 z1 z2 z3) ∧ Ext w w'' := by
  obtain ⟨b0, b1, b2, b3, a0, a1, a2, a3, l0, k0, l1, k1, l2, k2, l3, k3, rfl, i0, i1, i2, i3⟩ := h
  have hp : (0 : Int) < 2 ^ n := Int.pow_pos (by decide)
  have fD : Fit k ((1 : Int) * 2 ^ n) := by
    unfold Fit
    rw [Int.one_mul]
    have e : ((2 : Int) ^ n).natAbs = 2 ^ n := by
      have : ((2 : Int) ^ n) = ((2 ^ n : Nat) : Int) := by simp
      rw [this]; rfl
    rw [e]
    exact Nat.pow_lt_pow_right (by decide) hnk
  have hD : (1 : Int) * 2 ^ n ≠ 0 := by rw [Int.one_mul]; omega
  have nr : ∀ t z : Int, IsNear t (2 ^ n) z → IsNear (over t (1 * 2 ^ n)) (((1 : Int) * 2 ^ n).natAbs : Int) z := fun t z hz => by
    rw [Int.one_mul, over_pos _ _ hp, Int.natAbs_of_nonneg (by omega)]
    exact hz
  obtain ⟨n0, d0, O0, N0⟩ := over_near t0 (1 * 2 ^ n) z0 k hD (by omega) f0 fD (nr _ _ h0)
  obtain ⟨n1, d1, O1, N1⟩ := over_near t1 (1 * 2 ^ n) z1 k hD (by omega) f1 fD (nr _ _ h1)
  obtain ⟨n2, d2, O2, N2⟩ := over_near t2 (1 * 2 ^ n) z2 k hD (by omega) f2 fD (nr _ _ h2)
  obtain ⟨n3, d3, O3, N3⟩ := over_near t3 (1 * 2 ^ n) z3 k hD (by omega) f3 fD (nr _ _ h3)
  obtain ⟨s0, s1, s2, es, u0, u1, u2, u3, eu, HT, HQ, hq⟩ := quat_any z0 z1 z2 z3
  rw [hq]
  have f1' : Fit 1 1 := by unfold Fit; decide
  exact rshift_raw b0 b1 b2 b3 a0 a1 a2 a3 l0 k0 l1 k1 l2 k2 l3 k3 t0 t1 t2 t3 (n : Int) (1 * 2 ^ n) n0 n1 n2 n3 _ _ _ _ _ _ _ _ s0 s1 s2 es u0 u1 u2 u3 eu d0 d1 d2 d3 w i0 i1 i2 i3
    (fun w' => from_any 1 w' (by decide) (by decide)) (fun r w' i => left_isI 1 n r w' i (f1'.small (by omega)) (by omega) (fD.small (by omega))) O0 N0 O1 N1 O2 N2 O3 N3 HT HQ
set_option maxRecDepth 20000 in
set_option maxHeartbeats 8000000 in
theorem rproduct_raw (a b c d x y z t T0 T1 T2 T3 u0 u1 u2 u3 eu : Int) (w : World) (HE : Hid (∀ w', Calls zP 27 #[zG #[J zq a, J zq b, J zq c, J zq d], zG #[J zq x, J zq y, J zq z, J zq t]] w' fun e w'' => (∃ r, e = zR r ∧ IsFour w'' r T0 T1 T2 T3) ∧ Ext w' w'')) (HS : Hid (∀ v w', IsFour w' v T0 T1 T2 T3 → Calls zP 26 #[v, J zq 30] w' fun e w'' => e = zR (.tuple #[zG #[J zq u0, J zq u1, J zq u2, J zq u3], J zq eu]) ∧ Ext w' w'')) :
    Calls zP 33 #[zG #[J zq a, J zq b, J zq c, J zq d], zG #[J zq x, J zq y, J zq z, J zq t]] w fun e w'' => e = zR (.tuple #[zG #[J zq u0, J zq u1, J zq u2, J zq u3], J zq eu]) ∧ Ext w w'' := by
  have Bp : Hid (HV (((w.alloc (.cells #[J zq a, J zq b, J zq c, J zq d] 24)).alloc (.cells #[J zq x, J zq y, J zq z, J zq t] 24)).alloc (.cells #[J zq 0, J zq 0, J zq 0, J zq 0] 24)) w.heap.size [J zq a, J zq b, J zq c, J zq d]) := HV.alloc (HV.alloc (hv_at rfl) _) _
  have Bq : Hid (HV (((w.alloc (.cells #[J zq a, J zq b, J zq c, J zq d] 24)).alloc (.cells #[J zq x, J zq y, J zq z, J zq t] 24)).alloc (.cells #[J zq 0, J zq 0, J zq 0, J zq 0] 24)) (w.heap.size + 1) [J zq x, J zq y, J zq z, J zq t]) := HV.alloc (hv_at (by simp)) _
  have Br : Hid (HV (((w.alloc (.cells #[J zq a, J zq b, J zq c, J zq d] 24)).alloc (.cells #[J zq x, J zq y, J zq z, J zq t] 24)).alloc (.cells #[J zq 0, J zq 0, J zq 0, J zq 0] 24)) (w.heap.size + 1 + 1) [J zq 0, J zq 0, J zq 0, J zq 0]) := hv_at (by simp)
  have E0 : Hid (Ext w (((w.alloc (.cells #[J zq a, J zq b, J zq c, J zq d] 24)).alloc (.cells #[J zq x, J zq y, J zq z, J zq t] 24)).alloc (.cells #[J zq 0, J zq 0, J zq 0, J zq 0] 24))) := (((Ext.refl _).alloc _).alloc _).alloc _
  go_enter Tryz.func33, Tryz.ntmps33
  go_upto_region 1 with fail
  generalize (((w.alloc (.cells #[J zq a, J zq b, J zq c, J zq d] 24)).alloc (.cells #[J zq x, J zq y, J zq z, J zq t] 24)).alloc (.cells #[J zq 0, J zq 0, J zq 0, J zq 0] 24)) = wB at *
  have qp0 := Bp.out.c 0 rfl
  have qq0 := Bq.out.c 0 rfl
  have qp1 := Bp.out.c 1 rfl
  have qq1 := Bq.out.c 1 rfl
  have qp2 := Bp.out.c 2 rfl
  have qq2 := Bq.out.c 2 rfl
  have qp3 := Bp.out.c 3 rfl
  have qq3 := Bq.out.c 3 rfl
  go_wp2_with fail
  refine (HE.out _).mono ?_
  rintro e w1 ⟨⟨r, rfl, hr⟩, x1⟩
  have Br : Hid (HV w1 (w.heap.size + 1 + 1) [J zq 0, J zq 0, J zq 0, J zq 0]) := Br.out.ext x1
  have E0 := exx E0 x1
  clear qp0 qq0 qp1 qq1 qp2 qq2 qp3 qq3 Bp Bq x1
  go_wp2_with fail
  refine (HS.out _ _ hr).mono ?_
  rintro e w2 ⟨rfl, x2⟩
  have Br : Hid (HV w2 (w.heap.size + 1 + 1) [J zq 0, J zq 0, J zq 0, J zq 0]) := Br.out.ext x2
  have E1 : Ext w w2 := E0.out.trans x2
  clear x2 hr
  have z0 := Br.out.c 0 rfl
  have y0 := Br.out.f 0 rfl
  have z1 := Br.out.c 1 rfl
  have y1 := Br.out.f 1 rfl
  have z2 := Br.out.c 2 rfl
  have y2 := Br.out.f 2 rfl
  have z3 := Br.out.c 3 rfl
  have y3 := Br.out.f 3 rfl
  have rl := Br.out.1
  go_wp2_with fail
  exact bodyPost_ret (v := .tuple #[zG #[J zq u0, J zq u1, J zq u2, J zq u3], J zq eu]) (by simp [results, Tryz.results33, go_sem, z0, z1, z2, z3]) rfl ⟨rfl, ((((E1.set (p := ⟨w.heap.size + 1 + 1, 0, none⟩) (by dsimp only; omega) _).set (p := ⟨w.heap.size + 1 + 1, 1, none⟩) (by dsimp only; omega) _).set (p := ⟨w.heap.size + 1 + 1, 2, none⟩) (by dsimp only; omega) _).set (p := ⟨w.heap.size + 1 + 1, 3, none⟩) (by dsimp only; omega) _)⟩
theorem qres_is (z0 z1 z2 z3 : Int) : ∃ x y z u e : Int, qres z0 z1 z2 z3 = .tuple #[zG #[J zq x, J zq y, J zq z, J zq u], J zq e] ∧ (e = 0 ∨ x = 0 ∧ y = 0 ∧ z = 0 ∧ u = 0 ∧ e ≠ 0) := by
  unfold qres
  split
  · exact ⟨_, _, _, _, 0, rfl, .inl rfl⟩
  · exact ⟨0, 0, 0, 0, 2, rfl, .inr ⟨rfl, rfl, rfl, rfl, by decide⟩⟩
theorem near30 (t : Int) : IsNear t (2 ^ 30) (nearQ t) := by
  have e : (2 : Int) ^ 30 = 1073741824 := by decide
  rw [e]
  exact nearQ_spec t
theorem rproduct_any (a b c d x y z t : Int) (w : World) (h : ok4 a b c d = true) (k : ok4 x y z t = true) :
    Calls zP 33 #[zG #[J zq a, J zq b, J zq c, J zq d], zG #[J zq x, J zq y, J zq z, J zq t]] w fun e w'' => e = zR (qres (nearQ (qw a b c d x y z t)) (nearQ (qx a b c d x y z t)) (nearQ (qy a b c d x y z t)) (nearQ (qz a b c d x y z t))) ∧ Ext w w'' := by
  obtain ⟨ha, hb, hc, hd⟩ := ok4_parts h
  obtain ⟨kx, ky, kz, kt⟩ := ok4_parts k
  obtain ⟨f0, f1, f2, f3⟩ := qw_fit (fitW ha) (fitW hb) (fitW hc) (fitW hd) (fitW kx) (fitW ky) (fitW kz) (fitW kt)
  obtain ⟨u0, u1, u2, u3, eu, hq, _⟩ := qres_is (nearQ (qw a b c d x y z t)) (nearQ (qx a b c d x y z t)) (nearQ (qy a b c d x y z t)) (nearQ (qz a b c d x y z t))
  have HS := fun v w' (i : IsFour w' v (qw a b c d x y z t) (qx a b c d x y z t) (qy a b c d x y z t) (qz a b c d x y z t)) => rshift_any _ _ _ _ (nearQ (qw a b c d x y z t)) (nearQ (qx a b c d x y z t)) (nearQ (qy a b c d x y z t)) (nearQ (qz a b c d x y z t)) 30 95 v w' i (by omega) (by omega) (by omega) f0 f1 f2 f3 (near30 _) (near30 _) (near30 _) (near30 _)
  rw [hq] at HS ⊢
  exact rproduct_raw a b c d x y z t _ _ _ _ u0 u1 u2 u3 eu w (fun w' => rexact_any a b c d x y z t w' h k) HS
end Go.Proofs.YtoeecldhbabmbaaGreat
