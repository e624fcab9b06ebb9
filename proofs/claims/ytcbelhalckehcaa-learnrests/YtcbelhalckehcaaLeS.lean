/- LearnSame. -/
import Derived.Test.YtcbelhalckehcaaLe4
import Derived.Deep.Cut
import Derived.Deep.DeepCutAuto
namespace Go.Proofs.Ytcbelhalckehcaa
open Go.RowKit Go.Shelf
theorem nr_mul (v : Int) : nr (32 * v) = v := by unfold nr nearI; omega
theorem okW_in {a : Int} (h1 : -35184372088832 < a) (h2 : a < 35184372088832) : okW a = true := by
  unfold okW; simp; omega
theorem ok3_of {a b c : Int} (h0 : -35184372088832 < a ∧ a < 35184372088832) (h1 : -35184372088832 < b ∧ b < 35184372088832) (h2 : -35184372088832 < c ∧ c < 35184372088832) : ok3 a b c = true := by
  unfold ok3; rw [okW_in h0.1 h0.2, okW_in h1.1 h1.2, okW_in h2.1 h2.2]; rfl
theorem ngh_of {v0 v1 v2 b0 b1 b2 : Int} (h0 : -1048576 ≤ v0 - b0 ∧ v0 - b0 ≤ 1048576) (h1 : -1048576 ≤ v1 - b1 ∧ v1 - b1 ≤ 1048576) (h2 : -1048576 ≤ v2 - b2 ∧ v2 - b2 ≤ 1048576) : ngh v0 v1 v2 b0 b1 b2 = true := by
  unfold ngh; rw [gte_iff.2 h0, gte_iff.2 h1, gte_iff.2 h2]; rfl
theorem okLn_of {b0 b1 b2 s0 s1 s2 n : Int} (hb : ok3 b0 b1 b2 = true) (h0 : -2251799813685248 < s0 ∧ s0 < 2251799813685248) (h1 : -2251799813685248 < s1 ∧ s1 < 2251799813685248) (h2 : -2251799813685248 < s2 ∧ s2 < 2251799813685248) (hn : 0 ≤ n ∧ n < 32) (hz : n = 0 → s0 = 0 ∧ s1 = 0 ∧ s2 = 0) : okLn b0 b1 b2 s0 s1 s2 n = true := by
  have ho : opn s0 s1 s2 n = true := by
    unfold opn
    split
    · rename_i h; simp [hz h]
    · simp; omega
  unfold okLn okS3; rw [ho, okS_iff.2 h0, okS_iff.2 h1, okS_iff.2 h2, hb]; rfl
theorem mulb {j v m : Int} (hj : 0 ≤ j ∧ j < 32) (hm : 0 ≤ m) (hv : -m ≤ v ∧ v ≤ m) : -(31 * m) ≤ j * v ∧ j * v ≤ 31 * m := by
  obtain ⟨v1, v2⟩ := hv
  have a1 : j * v ≤ j * m := Int.mul_le_mul_of_nonneg_left v2 hj.1
  have a2 : j * m ≤ 31 * m := Int.mul_le_mul_of_nonneg_right (by omega) hm
  have a3 : j * (-m) ≤ j * v := Int.mul_le_mul_of_nonneg_left v1 hj.1
  rw [Int.mul_neg] at a3
  omega
theorem same_step (b0 b1 b2 v0 v1 v2 j : Int) (hb0 : -1073741824 ≤ b0 ∧ b0 ≤ 1073741824) (hb1 : -1073741824 ≤ b1 ∧ b1 ≤ 1073741824) (hb2 : -1073741824 ≤ b2 ∧ b2 ≤ 1073741824)
    (h0 : -1048576 ≤ v0 - b0 ∧ v0 - b0 ≤ 1048576) (h1 : -1048576 ≤ v1 - b1 ∧ v1 - b1 ≤ 1048576) (h2 : -1048576 ≤ v2 - b2 ∧ v2 - b2 ≤ 1048576) (hj : 0 ≤ j ∧ j < 32) :
    takeL b0 b1 b2 (j * v0) (j * v1) (j * v2) j v0 v1 v2 = if j + 1 < 32 then .tuple #[.agg #[.int .i64 b0, .int .i64 b1, .int .i64 b2, .int .i64 ((j + 1) * v0), .int .i64 ((j + 1) * v1), .int .i64 ((j + 1) * v2), .int .i64 (j + 1)], .bool false, .int .i64 0] else .tuple #[.agg #[.int .i64 v0, .int .i64 v1, .int .i64 v2, .int .i64 0, .int .i64 0, .int .i64 0, .int .i64 0], .bool true, .int .i64 0] := by
  have m0 := mulb (m := 1074790400) hj (by decide) (show -1074790400 ≤ v0 ∧ v0 ≤ 1074790400 by omega)
  have m1 := mulb (m := 1074790400) hj (by decide) (show -1074790400 ≤ v1 ∧ v1 ≤ 1074790400 by omega)
  have m2 := mulb (m := 1074790400) hj (by decide) (show -1074790400 ≤ v2 ∧ v2 ≤ 1074790400 by omega)
  have ok : okLn b0 b1 b2 (j * v0) (j * v1) (j * v2) j = true := okLn_of (ok3_of (by omega) (by omega) (by omega)) (by omega) (by omega) (by omega) hj (fun e => by subst e; simp)
  unfold takeL
  rw [ok, ok3_of (show -35184372088832 < v0 ∧ v0 < 35184372088832 by omega) (show -35184372088832 < v1 ∧ v1 < 35184372088832 by omega) (show -35184372088832 < v2 ∧ v2 < 35184372088832 by omega), ngh_of h0 h1 h2]
  have e : ∀ v : Int, j * v + v = (j + 1) * v := fun v => by rw [Int.add_mul, Int.one_mul]
  rw [e, e, e]
  by_cases hl : j + 1 < 32
  · rw [if_pos hl, if_pos hl]; rfl
  · have ej : j + 1 = 32 := by omega
    rw [if_neg hl, if_neg hl, ej, nr_mul, nr_mul, nr_mul, ok3_of (show -35184372088832 < v0 ∧ v0 < 35184372088832 by omega) (show -35184372088832 < v1 ∧ v1 < 35184372088832 by omega) (show -35184372088832 < v2 ∧ v2 < 35184372088832 by omega)]
    rfl
set_option maxRecDepth 20000 in
set_option maxHeartbeats 40000000 in
theorem learnsame_any (b off len cap : Nat) (Z : Nat → Nat → Int) (w : World) (hl : len ≤ maxLen) (hc : NL 3 w b off len Z) :
    Calls Try.prog 5 #[.slice (some ⟨b, off, none⟩) len cap] w fun e w' => e = .returned (.bool true) ∧ Ext w w' := by
  have hl' : len ≤ 9223372036854775807 := by unfold maxLen at hl; omega
  clear hl
  go_enter Try.func5, Try.ntmps5
  go_wp2_with fail
  go_loopw [3] (fun i wr => ∃ k : Nat, k ≤ len ∧ i = .int .i64 k ∧ Ext w wr) (fun i _ => len - (intOf i).toNat)
  case atStart => exact ⟨0, Nat.zero_le _, rfl, Ext.refl _⟩
  case round =>
    obtain ⟨k, hk, rfl, hx⟩ := hrel
    by_cases hlt : k < len
    · by_cases h5 : k < 5
      · skip
        have HX : Hid (Ext w wr) := hx
        clear hx
        obtain ⟨c0, n0a, n0b⟩ := (hc.ext HX.out) k hlt 0 (by omega)
        obtain ⟨c1, n1a, n1b⟩ := (hc.ext HX.out) k hlt 1 (by omega)
        obtain ⟨c2, n2a, n2b⟩ := (hc.ext HX.out) k hlt 2 (by omega)
        rw [Nat.add_zero] at c0
        have hlt' : (k : Int) < (len : Int) := by omega
        have hb0 : b < wr.heap.size := cell_lt c0
        have NB : Hid (b < wr.heap.size) := hb0
        clear hc n0a n0b n1a n1b n2a n2b hb0
        generalize Z k 0 = z0 at *
        generalize Z k 1 = z1 at *
        generalize Z k 2 = z2 at *
        have HB : Hid (∀ w, Calls Try.prog 13 #[.agg #[.int .i64 z0, .int .i64 z1, .int .i64 z2], .int .i64 1073741824] w fun e w' => e = .returned (.agg #[.int .i64 (brt 1073741824 z0), .int .i64 (brt 1073741824 z1), .int .i64 (brt 1073741824 z2)]) ∧ Ext w w') := brvec_1073741824 _ _ _
        have HD : Hid (∀ w, Calls Try.prog 13 #[.agg #[.int .i64 z2, .int .i64 z0, .int .i64 z1], .int .i64 1048576] w fun e w' => e = .returned (.agg #[.int .i64 (brt 1048576 z2), .int .i64 (brt 1048576 z0), .int .i64 (brt 1048576 z1)]) ∧ Ext w w') := brvec_1048576 _ _ _
        have gb0 := brt_bounds 1073741824 z0 (by decide)
        have gb1 := brt_bounds 1073741824 z1 (by decide)
        have gb2 := brt_bounds 1073741824 z2 (by decide)
        have db0 := brt_bounds 1048576 z2 (by decide)
        have db1 := brt_bounds 1048576 z0 (by decide)
        have db2 := brt_bounds 1048576 z1 (by decide)
        generalize brt 1073741824 z0 = g0 at *
        generalize brt 1073741824 z1 = g1 at *
        generalize brt 1073741824 z2 = g2 at *
        generalize brt 1048576 z2 = d0 at *
        generalize brt 1048576 z0 = d1 at *
        generalize brt 1048576 z1 = d2 at *
        have FX : Hid (Ext w wr) := HX
        clear HX
        go_upto_region 5 with (first | (go_at_call 13; refine (HB.out _).mono ?_; rintro e u0 ⟨rfl, x0⟩))
        have c0 : u0.cell? ⟨b, off + k * 3, none⟩ = some (.int .i64 z0) := x0.keepc c0
        have c1 : u0.cell? ⟨b, off + k * 3 + 1, none⟩ = some (.int .i64 z1) := x0.keepc c1
        have c2 : u0.cell? ⟨b, off + k * 3 + 2, none⟩ = some (.int .i64 z2) := x0.keepc c2
        have NBu : Hid (b < u0.heap.size) := Nat.lt_of_lt_of_le NB.out x0.size
        clear NB
        have FX : Hid (Ext w u0) := FX.out.trans x0
        clear x0 HB
        have c0 : (u0.alloc (.cells #[.int .i64 g0, .int .i64 g1, .int .i64 g2, .int .i64 0, .int .i64 0, .int .i64 0, .int .i64 0] 26)).cell? ⟨b, off + k * 3, none⟩ = some (.int .i64 z0) := ((Ext.refl u0).alloc _).keepc c0
        have c1 : (u0.alloc (.cells #[.int .i64 g0, .int .i64 g1, .int .i64 g2, .int .i64 0, .int .i64 0, .int .i64 0, .int .i64 0] 26)).cell? ⟨b, off + k * 3 + 1, none⟩ = some (.int .i64 z1) := ((Ext.refl u0).alloc _).keepc c1
        have c2 : (u0.alloc (.cells #[.int .i64 g0, .int .i64 g1, .int .i64 g2, .int .i64 0, .int .i64 0, .int .i64 0, .int .i64 0] 26)).cell? ⟨b, off + k * 3 + 2, none⟩ = some (.int .i64 z2) := ((Ext.refl u0).alloc _).keepc c2
        have NBx : Hid (b < (u0.alloc (.cells #[.int .i64 g0, .int .i64 g1, .int .i64 g2, .int .i64 0, .int .i64 0, .int .i64 0, .int .i64 0] 26)).heap.size) := Nat.lt_of_lt_of_le NBu.out ((Ext.refl u0).alloc _).size
        clear NBu
        skip
        have Lm : Hid (w.heap.size ≤ u0.heap.size) := FX.out.size
        have Fm : Hid (HV (u0.alloc (.cells #[.int .i64 g0, .int .i64 g1, .int .i64 g2, .int .i64 0, .int .i64 0, .int .i64 0, .int .i64 0] 26)) u0.heap.size [.int .i64 g0, .int .i64 g1, .int .i64 g2, .int .i64 0, .int .i64 0, .int .i64 0, .int .i64 0]) := hv_at rfl
        have FX : Hid (Ext w (u0.alloc (.cells #[.int .i64 g0, .int .i64 g1, .int .i64 g2, .int .i64 0, .int .i64 0, .int .i64 0, .int .i64 0] 26))) := FX.out.alloc _
        generalize (u0.alloc (.cells #[.int .i64 g0, .int .i64 g1, .int .i64 g2, .int .i64 0, .int .i64 0, .int .i64 0, .int .i64 0] 26)) = wx1 at *
        generalize u0.heap.size = nm at *
        go_cut [5] from 11 to 87 (fun v5 wx => ∃ g : Nat, v5 = .pointer (some ⟨g, 0, none⟩) ∧ Hid (nm < g) ∧ Hid (HV wx g [.int .i64 d0, .int .i64 d1, .int .i64 d2]) ∧ Hid (Ext wx1 wx))
        case first =>
          have NB1 : b < wx1.heap.size := NBx.out
          have NM1 : nm < wx1.heap.size := Fm.out.1
          obtain ⟨na0, nb0⟩ : b ≠ wx1.heap.size ∧ wx1.heap.size ≠ b := by omega
          go_region_held3 (fun w' => w'.cell? ⟨b, off + k * 3, none⟩ = some (.int .i64 z0) ∧ w'.cell? ⟨b, off + k * 3 + 1, none⟩ = some (.int .i64 z1) ∧ w'.cell? ⟨b, off + k * 3 + 2, none⟩ = some (.int .i64 z2)) (first | (go_keep; done) | (refine ⟨?_, ?_, ?_⟩ <;> (rw [World.cell?_setCell_far _ _ _ _ (by dsimp only; omega), World.cell?_setCell_far _ _ _ _ (by dsimp only; omega), World.cell?_setCell_far _ _ _ _ (by dsimp only; omega)]; with_reducible assumption)) | skip) (first | (go_at_call 13; refine (HD.out _).mono ?_; rintro e u1 ⟨rfl, y1⟩; have Y1 : Ext wx1 u1 := Ext.trans (by repeat (first | with_reducible assumption | with_reducible exact Ext.refl _ | with_reducible refine Ext.drew ?_ | with_reducible refine Ext.drewN ?_ _ | with_reducible refine Ext.alloc ?_ _ | with_reducible refine Ext.set ?_ (by first | exact Nat.le_refl _ | (dsimp only; omega) | (simp; done)) _)) y1; have e0u : u1.cell? ⟨b, off + k * 3, none⟩ = some (.int .i64 z0) := Y1.keepc c0; have e1u : u1.cell? ⟨b, off + k * 3 + 1, none⟩ = some (.int .i64 z1) := Y1.keepc c1; have e2u : u1.cell? ⟨b, off + k * 3 + 2, none⟩ = some (.int .i64 z2) := Y1.keepc c2; have le1 : wx1.heap.size ≤ u1.heap.size := Y1.size; obtain ⟨na, nb⟩ : b ≠ u1.heap.size ∧ u1.heap.size ≠ b := (by omega); first | (have G : Hid (HV u1 wx1.heap.size [.int .i64 0, .int .i64 0, .int .i64 0]) := (hv_at (w := wx1) (T := 24) rfl).drew.ext y1; obtain ⟨g0u, g1u, g2u⟩ := G.out.k3; obtain ⟨f0u, f1u, f2u⟩ := G.out.z3) | (have G : Hid (HV u1 wx1.heap.size [.int .i64 0, .int .i64 0, .int .i64 0]) := (hv_at (w := wx1) (T := 24) rfl).ext y1; obtain ⟨g0u, g1u, g2u⟩ := G.out.k3; obtain ⟨f0u, f1u, f2u⟩ := G.out.z3) | skip))
          all_goals
            go_wp2_with fail
            go_meet
            first | exact ⟨u1.heap.size, rfl, by show nm < _; omega, hv_at rfl, Y1.alloc _⟩ | exact ⟨wx1.heap.size, rfl, NM1, (((G.out.set 0 _).set 1 _).set 2 _), ((Y1.set (Nat.le_refl _) _).set (Nat.le_refl _) _).set (Nat.le_refl _) _⟩
        case rest =>
          obtain ⟨nd, rfl, hnd, Fd, hx⟩ := hcut
          have hx := hx.out
          have Fm : Hid (HV wc nm [.int .i64 g0, .int .i64 g1, .int .i64 g2, .int .i64 0, .int .i64 0, .int .i64 0, .int .i64 0]) := Fm.out.ext hx
          have FX : Hid (Ext w wc) := FX.out.trans hx
          clear hx c0 c1 c2 HD NBx
          have qm0 : wc.cell? ⟨nm, 0, none⟩ = some (.int .i64 g0) := Fm.out.c 0 rfl
          have qm1 : wc.cell? ⟨nm, 1, none⟩ = some (.int .i64 g1) := Fm.out.c 1 rfl
          have qm2 : wc.cell? ⟨nm, 2, none⟩ = some (.int .i64 g2) := Fm.out.c 2 rfl
          have qd0 : wc.cell? ⟨nd, 0, none⟩ = some (.int .i64 d0) := Fd.out.c 0 rfl
          have qd1 : wc.cell? ⟨nd, 1, none⟩ = some (.int .i64 d1) := Fd.out.c 1 rfl
          have qd2 : wc.cell? ⟨nd, 2, none⟩ = some (.int .i64 d2) := Fd.out.c 2 rfl
          obtain ⟨g0a, g0b⟩ := gb0
          obtain ⟨d0a, d0b⟩ := db0
          obtain ⟨g1a, g1b⟩ := gb1
          obtain ⟨d1a, d1b⟩ := db1
          obtain ⟨g2a, g2b⟩ := gb2
          obtain ⟨d2a, d2b⟩ := db2
          go_upto_region 7 with fail
          clear qm0 qm1 qm2 qd0 qd1 qd2
          have ltmv : nm < wc.heap.size := Fm.out.1
          have ltdv : nd < wc.heap.size := Fd.out.1
          have Lv : Hid (w.heap.size ≤ wc.heap.size) := FX.out.size
          have Fm : Hid (HV (wc.alloc (.cells #[.int .i64 (g0 + d0), .int .i64 (g1 + d1), .int .i64 (g2 + d2)] 24)) nm [.int .i64 g0, .int .i64 g1, .int .i64 g2, .int .i64 0, .int .i64 0, .int .i64 0, .int .i64 0]) := Fm.out.alloc _
          have Fd : Hid (HV (wc.alloc (.cells #[.int .i64 (g0 + d0), .int .i64 (g1 + d1), .int .i64 (g2 + d2)] 24)) nd [.int .i64 d0, .int .i64 d1, .int .i64 d2]) := Fd.out.alloc _
          have Fv : Hid (HV (wc.alloc (.cells #[.int .i64 (g0 + d0), .int .i64 (g1 + d1), .int .i64 (g2 + d2)] 24)) wc.heap.size [.int .i64 (g0 + d0), .int .i64 (g1 + d1), .int .i64 (g2 + d2)]) := hv_at rfl
          have FX : Hid (Ext w (wc.alloc (.cells #[.int .i64 (g0 + d0), .int .i64 (g1 + d1), .int .i64 (g2 + d2)] 24))) := FX.out.alloc _
          generalize (wc.alloc (.cells #[.int .i64 (g0 + d0), .int .i64 (g1 + d1), .int .i64 (g2 + d2)] 24)) = wx2 at *
          generalize wc.heap.size = nv at *
          have dv0 : Hid (-1048576 ≤ g0 + d0 - g0 ∧ g0 + d0 - g0 ≤ 1048576) := by show _ ∧ _; omega
          have gv0 : Hid (-1073741824 ≤ g0 ∧ g0 ≤ 1073741824) := ⟨g0a, g0b⟩
          have dv1 : Hid (-1048576 ≤ g1 + d1 - g1 ∧ g1 + d1 - g1 ≤ 1048576) := by show _ ∧ _; omega
          have gv1 : Hid (-1073741824 ≤ g1 ∧ g1 ≤ 1073741824) := ⟨g1a, g1b⟩
          have dv2 : Hid (-1048576 ≤ g2 + d2 - g2 ∧ g2 + d2 - g2 ≤ 1048576) := by show _ ∧ _; omega
          have gv2 : Hid (-1073741824 ≤ g2 ∧ g2 ≤ 1073741824) := ⟨g2a, g2b⟩
          clear g0a g0b d0a d0b g1a g1b d1a d1b g2a g2b d2a d2b
          generalize g0 + d0 = v0 at *
          generalize g1 + d1 = v1 at *
          generalize g2 + d2 = v2 at *
          have HS : Hid (∀ j : Int, 0 ≤ j ∧ j < 32 → takeL g0 g1 g2 (j * v0) (j * v1) (j * v2) j v0 v1 v2 = if j + 1 < 32 then .tuple #[.agg #[.int .i64 g0, .int .i64 g1, .int .i64 g2, .int .i64 ((j + 1) * v0), .int .i64 ((j + 1) * v1), .int .i64 ((j + 1) * v2), .int .i64 (j + 1)], .bool false, .int .i64 0] else .tuple #[.agg #[.int .i64 v0, .int .i64 v1, .int .i64 v2, .int .i64 0, .int .i64 0, .int .i64 0, .int .i64 0], .bool true, .int .i64 0]) := fun j hj => same_step g0 g1 g2 v0 v1 v2 j gv0.out gv1.out gv2.out dv0.out dv1.out dv2.out hj
          clear dv0 dv1 dv2 gv0 gv1 gv2
          generalize wx2 = wb at *
          have lmv : nm < nv := by omega
          go_wp2_with fail
          go_loopw [7] (fun q wr => ∃ k1 : Nat, 1 ≤ k1 ∧ k1 ≤ 33 ∧ q = .int .i64 (k1 : Int) ∧ Hid (HV wr nv [.int .i64 v0, .int .i64 v1, .int .i64 v2]) ∧ Hid (Ext w wr) ∧ Hid (k1 < 33 ∧ HV wr nm [.int .i64 g0, .int .i64 g1, .int .i64 g2, .int .i64 (((k1 : Int) - 1) * v0), .int .i64 (((k1 : Int) - 1) * v1), .int .i64 (((k1 : Int) - 1) * v2), .int .i64 (((k1 : Int) - 1))] ∨ k1 = 33 ∧ HV wr nm [.int .i64 v0, .int .i64 v1, .int .i64 v2, .int .i64 0, .int .i64 0, .int .i64 0, .int .i64 0])) (fun q _ => 33 - (intOf q).toNat)
          case atStart =>
            exact ⟨1, by omega, by omega, rfl, Fv, FX, .inl ⟨by omega, by simpa using Fm.out⟩⟩
          case round =>
            clear Fv FX Fm Fd
            obtain ⟨k1, hk1, hk2, rfl, Fv, FX, Fm⟩ := hrel
            rcases Fm.out with ⟨hk3, Fm1⟩ | ⟨rfl, Fm1⟩
            · clear Fm
              generalize hj : (k1 : Int) - 1 = j at *
              have hj0 : 0 ≤ j ∧ j < 32 := by omega
              have hjk : (k1 : Int) = j + 1 := by omega
              have HT : Hid (∀ w, Calls Try.prog 9 #[.agg #[.int .i64 g0, .int .i64 g1, .int .i64 g2, .int .i64 (j * v0), .int .i64 (j * v1), .int .i64 (j * v2), .int .i64 j], .agg #[.int .i64 v0, .int .i64 v1, .int .i64 v2]] w fun e w' => e = .returned (takeL g0 g1 g2 (j * v0) (j * v1) (j * v2) j v0 v1 v2) ∧ Ext w w') := fun w => ltake_any _ _ _ _ _ _ _ _ _ _ w
              rw [HS.out j hj0] at HT
              have Fm : Hid (HV wr nm [.int .i64 g0, .int .i64 g1, .int .i64 g2, .int .i64 (j * v0), .int .i64 (j * v1), .int .i64 (j * v2), .int .i64 j]) := Fm1
              have kle : (k1 : Int) ≤ 32 := by omega
              clear HS Fm1 hj
              generalize ep0 : j * v0 = p0 at *
              generalize ep1 : j * v1 = p1 at *
              generalize ep2 : j * v2 = p2 at *
              by_cases hl : j + 1 < 32
              · rw [if_pos hl] at HT
                have ne32 : ((k1 : Int) == 32) = false := by simp; omega
                have hj2 : Hid (j + 1 = (k1 : Int)) := by show _ = _; omega
                have hk4 : Hid (k1 < 32) := by show _ < _; omega
                clear hl hjk hj0
                generalize eq0 : (j + 1) * v0 = r0 at *
                generalize eq1 : (j + 1) * v1 = r1 at *
                generalize eq2 : (j + 1) * v2 = r2 at *
                generalize ej1 : j + 1 = j1 at *
                have EQ : Hid (r0 = j1 * v0 ∧ r1 = j1 * v1 ∧ r2 = j1 * v2) := ⟨eq0.symm, eq1.symm, eq2.symm⟩
                clear eq0 eq1 eq2 ej1
                clear ep0 ep1 ep2
                have qm0 : wr.cell? ⟨nm, 0, none⟩ = some (.int .i64 g0) := Fm.out.c 0 rfl
                have qm1 : wr.cell? ⟨nm, 1, none⟩ = some (.int .i64 g1) := Fm.out.c 1 rfl
                have qm2 : wr.cell? ⟨nm, 2, none⟩ = some (.int .i64 g2) := Fm.out.c 2 rfl
                have qm3 : wr.cell? ⟨nm, 3, none⟩ = some (.int .i64 p0) := Fm.out.c 3 rfl
                have qm4 : wr.cell? ⟨nm, 4, none⟩ = some (.int .i64 p1) := Fm.out.c 4 rfl
                have qm5 : wr.cell? ⟨nm, 5, none⟩ = some (.int .i64 p2) := Fm.out.c 5 rfl
                have qm6 : wr.cell? ⟨nm, 6, none⟩ = some (.int .i64 j) := Fm.out.c 6 rfl
                have qv0 : wr.cell? ⟨nv, 0, none⟩ = some (.int .i64 v0) := Fv.out.c 0 rfl
                have qv1 : wr.cell? ⟨nv, 1, none⟩ = some (.int .i64 v1) := Fv.out.c 1 rfl
                have qv2 : wr.cell? ⟨nv, 2, none⟩ = some (.int .i64 v2) := Fv.out.c 2 rfl
                go_upto_region 11 with (first | (go_at_call 9; refine (HT.out _).mono ?_; rintro e u2 ⟨rfl, x2⟩))
                have Fm : Hid (HV u2 nm [.int .i64 g0, .int .i64 g1, .int .i64 g2, .int .i64 p0, .int .i64 p1, .int .i64 p2, .int .i64 j]) := Fm.out.ext x2
                have Fv : Hid (HV u2 nv [.int .i64 v0, .int .i64 v1, .int .i64 v2]) := Fv.out.ext x2
                have FX : Hid (Ext w u2) := FX.out.trans x2
                clear qm0 qm1 qm2 qm3 qm4 qm5 qm6 qv0 qv1 qv2 x2 HT
                have ltmu : nm < u2.heap.size := Fm.out.1
                have ltvu : nv < u2.heap.size := Fv.out.1
                have Lu : Hid (w.heap.size ≤ u2.heap.size) := FX.out.size
                have Fm : Hid (HV (u2.alloc (.cells #[.int .i64 g0, .int .i64 g1, .int .i64 g2, .int .i64 r0, .int .i64 r1, .int .i64 r2, .int .i64 j1] 26)) nm [.int .i64 g0, .int .i64 g1, .int .i64 g2, .int .i64 p0, .int .i64 p1, .int .i64 p2, .int .i64 j]) := Fm.out.alloc _
                have Fv : Hid (HV (u2.alloc (.cells #[.int .i64 g0, .int .i64 g1, .int .i64 g2, .int .i64 r0, .int .i64 r1, .int .i64 r2, .int .i64 j1] 26)) nv [.int .i64 v0, .int .i64 v1, .int .i64 v2]) := Fv.out.alloc _
                have Fu : Hid (HV (u2.alloc (.cells #[.int .i64 g0, .int .i64 g1, .int .i64 g2, .int .i64 r0, .int .i64 r1, .int .i64 r2, .int .i64 j1] 26)) u2.heap.size [.int .i64 g0, .int .i64 g1, .int .i64 g2, .int .i64 r0, .int .i64 r1, .int .i64 r2, .int .i64 j1]) := hv_at rfl
                have FX : Hid (Ext w (u2.alloc (.cells #[.int .i64 g0, .int .i64 g1, .int .i64 g2, .int .i64 r0, .int .i64 r1, .int .i64 r2, .int .i64 j1] 26))) := FX.out.alloc _
                generalize (u2.alloc (.cells #[.int .i64 g0, .int .i64 g1, .int .i64 g2, .int .i64 r0, .int .i64 r1, .int .i64 r2, .int .i64 j1] 26)) = wx1 at *
                generalize u2.heap.size = nu at *
                go_upto_region 13 with (first | (go_at_call 10; refine (num11_any _ _).mono ?_; rintro e wx ⟨rfl, hwx⟩; have hwy := hwx.symm; clear hwx; subst hwy))
                have qu0 : wx1.cell? ⟨nu, 0, none⟩ = some (.int .i64 g0) := Fu.out.c 0 rfl
                have qu1 : wx1.cell? ⟨nu, 1, none⟩ = some (.int .i64 g1) := Fu.out.c 1 rfl
                have qu2 : wx1.cell? ⟨nu, 2, none⟩ = some (.int .i64 g2) := Fu.out.c 2 rfl
                have qu3 : wx1.cell? ⟨nu, 3, none⟩ = some (.int .i64 r0) := Fu.out.c 3 rfl
                have qu4 : wx1.cell? ⟨nu, 4, none⟩ = some (.int .i64 r1) := Fu.out.c 4 rfl
                have qu5 : wx1.cell? ⟨nu, 5, none⟩ = some (.int .i64 r2) := Fu.out.c 5 rfl
                have qu6 : wx1.cell? ⟨nu, 6, none⟩ = some (.int .i64 j1) := Fu.out.c 6 rfl
                have qm0 : wx1.cell? ⟨nm, 0, none⟩ = some (.int .i64 g0) := Fm.out.c 0 rfl
                have zm0 : wx1.frozen? ⟨nm, 0, none⟩ = false := Fm.out.f 0 rfl
                have qm1 : wx1.cell? ⟨nm, 1, none⟩ = some (.int .i64 g1) := Fm.out.c 1 rfl
                have zm1 : wx1.frozen? ⟨nm, 1, none⟩ = false := Fm.out.f 1 rfl
                have qm2 : wx1.cell? ⟨nm, 2, none⟩ = some (.int .i64 g2) := Fm.out.c 2 rfl
                have zm2 : wx1.frozen? ⟨nm, 2, none⟩ = false := Fm.out.f 2 rfl
                have qm3 : wx1.cell? ⟨nm, 3, none⟩ = some (.int .i64 p0) := Fm.out.c 3 rfl
                have zm3 : wx1.frozen? ⟨nm, 3, none⟩ = false := Fm.out.f 3 rfl
                have qm4 : wx1.cell? ⟨nm, 4, none⟩ = some (.int .i64 p1) := Fm.out.c 4 rfl
                have zm4 : wx1.frozen? ⟨nm, 4, none⟩ = false := Fm.out.f 4 rfl
                have qm5 : wx1.cell? ⟨nm, 5, none⟩ = some (.int .i64 p2) := Fm.out.c 5 rfl
                have zm5 : wx1.frozen? ⟨nm, 5, none⟩ = false := Fm.out.f 5 rfl
                have qm6 : wx1.cell? ⟨nm, 6, none⟩ = some (.int .i64 j) := Fm.out.c 6 rfl
                have zm6 : wx1.frozen? ⟨nm, 6, none⟩ = false := Fm.out.f 6 rfl
                go_wp2_with fail
                go_roundw
                case rel =>
                  obtain ⟨E0, E1, E2⟩ := EQ.out
                  subst E0 E1 E2
                  have e1 : (((k1 + 1 : Nat) : Int) - 1) = j1 := by have := hj2.out; omega
                  have e2 := hk4.out
                  refine ⟨k1 + 1, by omega, by omega, by go_num, (((((((Fv.out.far (by omega)).far (by omega)).far (by omega)).far (by omega)).far (by omega)).far (by omega)).far (by omega)), (((((((FX.out.set (p := ⟨nm, 0, none⟩) Lm.out _).set (p := ⟨nm, 1, none⟩) Lm.out _).set (p := ⟨nm, 2, none⟩) Lm.out _).set (p := ⟨nm, 3, none⟩) Lm.out _).set (p := ⟨nm, 4, none⟩) Lm.out _).set (p := ⟨nm, 5, none⟩) Lm.out _).set (p := ⟨nm, 6, none⟩) Lm.out _), .inl ⟨by omega, ?_⟩⟩
                  rw [e1]
                  exact (((((((Fm.out.set 0 (.int .i64 g0)).set 1 (.int .i64 g1)).set 2 (.int .i64 g2)).set 3 (.int .i64 (j1 * v0))).set 4 (.int .i64 (j1 * v1))).set 5 (.int .i64 (j1 * v2))).set 6 (.int .i64 j1))
                case measure => first | (simp [intOf]; done) | (simp [intOf]; omega)
              · rw [if_neg hl] at HT
                have hk32 : k1 = 32 := by omega
                subst hk32
                clear hl hjk hj0 kle
                clear ep0 ep1 ep2
                have qm0 : wr.cell? ⟨nm, 0, none⟩ = some (.int .i64 g0) := Fm.out.c 0 rfl
                have qm1 : wr.cell? ⟨nm, 1, none⟩ = some (.int .i64 g1) := Fm.out.c 1 rfl
                have qm2 : wr.cell? ⟨nm, 2, none⟩ = some (.int .i64 g2) := Fm.out.c 2 rfl
                have qm3 : wr.cell? ⟨nm, 3, none⟩ = some (.int .i64 p0) := Fm.out.c 3 rfl
                have qm4 : wr.cell? ⟨nm, 4, none⟩ = some (.int .i64 p1) := Fm.out.c 4 rfl
                have qm5 : wr.cell? ⟨nm, 5, none⟩ = some (.int .i64 p2) := Fm.out.c 5 rfl
                have qm6 : wr.cell? ⟨nm, 6, none⟩ = some (.int .i64 j) := Fm.out.c 6 rfl
                have qv0 : wr.cell? ⟨nv, 0, none⟩ = some (.int .i64 v0) := Fv.out.c 0 rfl
                have qv1 : wr.cell? ⟨nv, 1, none⟩ = some (.int .i64 v1) := Fv.out.c 1 rfl
                have qv2 : wr.cell? ⟨nv, 2, none⟩ = some (.int .i64 v2) := Fv.out.c 2 rfl
                go_upto_region 11 with (first | (go_at_call 9; refine (HT.out _).mono ?_; rintro e u2 ⟨rfl, x2⟩))
                have Fm : Hid (HV u2 nm [.int .i64 g0, .int .i64 g1, .int .i64 g2, .int .i64 p0, .int .i64 p1, .int .i64 p2, .int .i64 j]) := Fm.out.ext x2
                have Fv : Hid (HV u2 nv [.int .i64 v0, .int .i64 v1, .int .i64 v2]) := Fv.out.ext x2
                have FX : Hid (Ext w u2) := FX.out.trans x2
                clear qm0 qm1 qm2 qm3 qm4 qm5 qm6 qv0 qv1 qv2 x2 HT
                have ltmu : nm < u2.heap.size := Fm.out.1
                have ltvu : nv < u2.heap.size := Fv.out.1
                have Lu : Hid (w.heap.size ≤ u2.heap.size) := FX.out.size
                have Fm : Hid (HV (u2.alloc (.cells #[.int .i64 v0, .int .i64 v1, .int .i64 v2, .int .i64 0, .int .i64 0, .int .i64 0, .int .i64 0] 26)) nm [.int .i64 g0, .int .i64 g1, .int .i64 g2, .int .i64 p0, .int .i64 p1, .int .i64 p2, .int .i64 j]) := Fm.out.alloc _
                have Fv : Hid (HV (u2.alloc (.cells #[.int .i64 v0, .int .i64 v1, .int .i64 v2, .int .i64 0, .int .i64 0, .int .i64 0, .int .i64 0] 26)) nv [.int .i64 v0, .int .i64 v1, .int .i64 v2]) := Fv.out.alloc _
                have Fu : Hid (HV (u2.alloc (.cells #[.int .i64 v0, .int .i64 v1, .int .i64 v2, .int .i64 0, .int .i64 0, .int .i64 0, .int .i64 0] 26)) u2.heap.size [.int .i64 v0, .int .i64 v1, .int .i64 v2, .int .i64 0, .int .i64 0, .int .i64 0, .int .i64 0]) := hv_at rfl
                have FX : Hid (Ext w (u2.alloc (.cells #[.int .i64 v0, .int .i64 v1, .int .i64 v2, .int .i64 0, .int .i64 0, .int .i64 0, .int .i64 0] 26))) := FX.out.alloc _
                generalize (u2.alloc (.cells #[.int .i64 v0, .int .i64 v1, .int .i64 v2, .int .i64 0, .int .i64 0, .int .i64 0, .int .i64 0] 26)) = wx1 at *
                generalize u2.heap.size = nu at *
                go_upto_region 13 with (first | (go_at_call 10; refine (num11_any _ _).mono ?_; rintro e wx ⟨rfl, hwx⟩; have hwy := hwx.symm; clear hwx; subst hwy))
                have qu0 : wx1.cell? ⟨nu, 0, none⟩ = some (.int .i64 v0) := Fu.out.c 0 rfl
                have qu1 : wx1.cell? ⟨nu, 1, none⟩ = some (.int .i64 v1) := Fu.out.c 1 rfl
                have qu2 : wx1.cell? ⟨nu, 2, none⟩ = some (.int .i64 v2) := Fu.out.c 2 rfl
                have qu3 : wx1.cell? ⟨nu, 3, none⟩ = some (.int .i64 0) := Fu.out.c 3 rfl
                have qu4 : wx1.cell? ⟨nu, 4, none⟩ = some (.int .i64 0) := Fu.out.c 4 rfl
                have qu5 : wx1.cell? ⟨nu, 5, none⟩ = some (.int .i64 0) := Fu.out.c 5 rfl
                have qu6 : wx1.cell? ⟨nu, 6, none⟩ = some (.int .i64 0) := Fu.out.c 6 rfl
                have qm0 : wx1.cell? ⟨nm, 0, none⟩ = some (.int .i64 g0) := Fm.out.c 0 rfl
                have zm0 : wx1.frozen? ⟨nm, 0, none⟩ = false := Fm.out.f 0 rfl
                have qm1 : wx1.cell? ⟨nm, 1, none⟩ = some (.int .i64 g1) := Fm.out.c 1 rfl
                have zm1 : wx1.frozen? ⟨nm, 1, none⟩ = false := Fm.out.f 1 rfl
                have qm2 : wx1.cell? ⟨nm, 2, none⟩ = some (.int .i64 g2) := Fm.out.c 2 rfl
                have zm2 : wx1.frozen? ⟨nm, 2, none⟩ = false := Fm.out.f 2 rfl
                have qm3 : wx1.cell? ⟨nm, 3, none⟩ = some (.int .i64 p0) := Fm.out.c 3 rfl
                have zm3 : wx1.frozen? ⟨nm, 3, none⟩ = false := Fm.out.f 3 rfl
                have qm4 : wx1.cell? ⟨nm, 4, none⟩ = some (.int .i64 p1) := Fm.out.c 4 rfl
                have zm4 : wx1.frozen? ⟨nm, 4, none⟩ = false := Fm.out.f 4 rfl
                have qm5 : wx1.cell? ⟨nm, 5, none⟩ = some (.int .i64 p2) := Fm.out.c 5 rfl
                have zm5 : wx1.frozen? ⟨nm, 5, none⟩ = false := Fm.out.f 5 rfl
                have qm6 : wx1.cell? ⟨nm, 6, none⟩ = some (.int .i64 j) := Fm.out.c 6 rfl
                have zm6 : wx1.frozen? ⟨nm, 6, none⟩ = false := Fm.out.f 6 rfl
                go_wp2_with fail
                go_roundw
                case rel => exact ⟨33, by omega, by omega, by go_num, (((((((Fv.out.far (by omega)).far (by omega)).far (by omega)).far (by omega)).far (by omega)).far (by omega)).far (by omega)), (((((((FX.out.set (p := ⟨nm, 0, none⟩) Lm.out _).set (p := ⟨nm, 1, none⟩) Lm.out _).set (p := ⟨nm, 2, none⟩) Lm.out _).set (p := ⟨nm, 3, none⟩) Lm.out _).set (p := ⟨nm, 4, none⟩) Lm.out _).set (p := ⟨nm, 5, none⟩) Lm.out _).set (p := ⟨nm, 6, none⟩) Lm.out _), .inr ⟨rfl, (((((((Fm.out.set 0 (.int .i64 v0)).set 1 (.int .i64 v1)).set 2 (.int .i64 v2)).set 3 (.int .i64 0)).set 4 (.int .i64 0)).set 5 (.int .i64 0)).set 6 (.int .i64 0))⟩⟩
                case measure => first | (simp [intOf]; done) | (simp [intOf]; omega)
            · clear Fm HS
              have Fm : Hid (HV wr nm [.int .i64 v0, .int .i64 v1, .int .i64 v2, .int .i64 0, .int .i64 0, .int .i64 0, .int .i64 0]) := Fm1
              clear Fm1
              have qm0 : wr.cell? ⟨nm, 0, none⟩ = some (.int .i64 v0) := Fm.out.c 0 rfl
              have qm1 : wr.cell? ⟨nm, 1, none⟩ = some (.int .i64 v1) := Fm.out.c 1 rfl
              have qm2 : wr.cell? ⟨nm, 2, none⟩ = some (.int .i64 v2) := Fm.out.c 2 rfl
              have qm3 : wr.cell? ⟨nm, 3, none⟩ = some (.int .i64 0) := Fm.out.c 3 rfl
              have qm4 : wr.cell? ⟨nm, 4, none⟩ = some (.int .i64 0) := Fm.out.c 4 rfl
              have qm5 : wr.cell? ⟨nm, 5, none⟩ = some (.int .i64 0) := Fm.out.c 5 rfl
              have qm6 : wr.cell? ⟨nm, 6, none⟩ = some (.int .i64 0) := Fm.out.c 6 rfl
              have qv0 : wr.cell? ⟨nv, 0, none⟩ = some (.int .i64 v0) := Fv.out.c 0 rfl
              have qv1 : wr.cell? ⟨nv, 1, none⟩ = some (.int .i64 v1) := Fv.out.c 1 rfl
              have qv2 : wr.cell? ⟨nv, 2, none⟩ = some (.int .i64 v2) := Fv.out.c 2 rfl
              go_wp2_with fail
              go_roundw
              case rel => exact ⟨k + 1, by omega, by go_num, FX.out⟩
              case measure => simp [intOf]; omega
      · go_wp2_with fail
        refine (wakes11_any _).mono ?_
        rintro e w1 ⟨rfl, x1⟩
        have E1 : Ext w w1 := hx.trans x1
        go_wp2_with fail
        go_ret
        exact ⟨rfl, E1⟩
    · have hk' : k = len := by omega
      subst hk'
      go_wp2_with fail
      refine (wakes11_any _).mono ?_
      rintro e w1 ⟨rfl, x1⟩
      have E1 : Ext w w1 := hx.trans x1
      go_wp2_with fail
      go_ret
      exact ⟨rfl, E1⟩
set_option maxHeartbeats 4000000 in
theorem learnsame_none (a : Option Addr) (cap : Nat) (w : World) :
    Calls Try.prog 5 #[.slice a 0 cap] w fun e w' => e = .returned (.bool true) ∧ Ext w w' := by
  go_enter Try.func5, Try.ntmps5
  go_wp2_with fail
  go_loopw [3] (fun i wr => i = .int .i64 0 ∧ Ext w wr) (fun _ _ => 0)
  case atStart => exact ⟨rfl, Ext.refl _⟩
  case round =>
    obtain ⟨rfl, hx⟩ := hrel
    go_wp2_with fail
    refine (wakes11_any _).mono ?_
    rintro e w1 ⟨rfl, x1⟩
    have E1 : Ext w w1 := hx.trans x1
    go_wp2_with fail
    go_ret
    exact ⟨rfl, E1⟩
end Go.Proofs.Ytcbelhalckehcaa
