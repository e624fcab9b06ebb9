/- gimbalref10: Apply. -/
import Derived.Test.YtnilhamcojjloaaCaX0
namespace Go.Proofs.Ytnilhamcojjloaa
open Go.RowKit Go.Shelf
theorem HV.k6 {w : World} {b : Nat} {v0 v1 v2 v3 v4 v5 : Value} (h : HV w b [v0, v1, v2, v3, v4, v5]) : w.cell? ⟨b, 0, none⟩ = some v0 ∧ w.cell? ⟨b, 1, none⟩ = some v1 ∧ w.cell? ⟨b, 2, none⟩ = some v2 ∧ w.cell? ⟨b, 3, none⟩ = some v3 ∧ w.cell? ⟨b, 4, none⟩ = some v4 ∧ w.cell? ⟨b, 5, none⟩ = some v5 :=
  ⟨h.c 0 rfl, h.c 1 rfl, h.c 2 rfl, h.c 3 rfl, h.c 4 rfl, h.c 5 rfl⟩
theorem HV.z6 {w : World} {b : Nat} {v0 v1 v2 v3 v4 v5 : Value} (h : HV w b [v0, v1, v2, v3, v4, v5]) : w.frozen? ⟨b, 0, none⟩ = false ∧ w.frozen? ⟨b, 1, none⟩ = false ∧ w.frozen? ⟨b, 2, none⟩ = false ∧ w.frozen? ⟨b, 3, none⟩ = false ∧ w.frozen? ⟨b, 4, none⟩ = false ∧ w.frozen? ⟨b, 5, none⟩ = false :=
  ⟨h.f 0 rfl, h.f 1 rfl, h.f 2 rfl, h.f 3 rfl, h.f 4 rfl, h.f 5 rfl⟩
theorem IsI.put6 {w : World} {g : Nat} {v : Value} {z : Int} (h : IsI w v z) (hV : HV w g [.bool false, .slice none 0 0, .bool false, .slice none 0 0, .bool false, .slice none 0 0]) (x0 x1 x2 x3 x4 x5 : Value) : IsI ((((((w.setCell ⟨g, 0, none⟩ (x0)).setCell ⟨g, 1, none⟩ (x1)).setCell ⟨g, 2, none⟩ (x2)).setCell ⟨g, 3, none⟩ (x3)).setCell ⟨g, 4, none⟩ (x4)).setCell ⟨g, 5, none⟩ (x5)) v z := by
  have a0 := h.set (x := x0) (hV.c 0 rfl) (by simp)
  have a1 := a0.set (x := x1) ((hV.set 0 x0).c 1 rfl) (by simp)
  have a2 := a1.set (x := x2) (((hV.set 0 x0).set 1 x1).c 2 rfl) (by simp)
  have a3 := a2.set (x := x3) ((((hV.set 0 x0).set 1 x1).set 2 x2).c 3 rfl) (by simp)
  have a4 := a3.set (x := x4) (((((hV.set 0 x0).set 1 x1).set 2 x2).set 3 x3).c 4 rfl) (by simp)
  exact a4.set (x := x5) ((((((hV.set 0 x0).set 1 x1).set 2 x2).set 3 x3).set 4 x4).c 5 rfl) (by simp)
theorem HV.put6 {w : World} {g : Nat} {y0 y1 y2 y3 y4 y5 : Value} (hV : HV w g [y0, y1, y2, y3, y4, y5]) (x0 x1 x2 x3 x4 x5 : Value) : HV ((((((w.setCell ⟨g, 0, none⟩ (x0)).setCell ⟨g, 1, none⟩ (x1)).setCell ⟨g, 2, none⟩ (x2)).setCell ⟨g, 3, none⟩ (x3)).setCell ⟨g, 4, none⟩ (x4)).setCell ⟨g, 5, none⟩ (x5)) g [x0, x1, x2, x3, x4, x5] :=
  (((((hV.set 0 x0).set 1 x1).set 2 x2).set 3 x3).set 4 x4).set 5 x5
theorem Ext.put6 {a w : World} {g : Nat} (h : Ext a w) (hb : a.heap.size ≤ g) (x0 x1 x2 x3 x4 x5 : Value) : Ext a ((((((w.setCell ⟨g, 0, none⟩ (x0)).setCell ⟨g, 1, none⟩ (x1)).setCell ⟨g, 2, none⟩ (x2)).setCell ⟨g, 3, none⟩ (x3)).setCell ⟨g, 4, none⟩ (x4)).setCell ⟨g, 5, none⟩ (x5)) :=
  Ext.set (Ext.set (Ext.set (Ext.set (Ext.set (Ext.set h (p := ⟨g, 0, none⟩) hb x0) (p := ⟨g, 1, none⟩) hb x1) (p := ⟨g, 2, none⟩) hb x2) (p := ⟨g, 3, none⟩) hb x3) (p := ⟨g, 4, none⟩) hb x4) (p := ⟨g, 5, none⟩) hb x5

def uf (u0 u1 u2 : Int) (j : Nat) : Int := if j = 0 then u0 else if j = 1 then u1 else u2
theorem u_at {w : World} {g : Nat} {B : Nat → Bool} {A : Nat → Option Addr} {L K : Nat → Nat} (h : HV w g [.bool (B 0), .slice (A 0) (L 0) (K 0), .bool (B 1), .slice (A 1) (L 1) (K 1), .bool (B 2), .slice (A 2) (L 2) (K 2)]) {j : Nat} (hj : j < 3) : w.cell? ⟨g, j * 2, none⟩ = some (.bool (B j)) ∧ w.cell? ⟨g, j * 2 + 1, none⟩ = some (.slice (A j) (L j) (K j)) := by
  obtain rfl | rfl | rfl : j = 0 ∨ j = 1 ∨ j = 2 := by omega
  · exact ⟨h.c 0 rfl, h.c 1 rfl⟩
  · exact ⟨h.c 2 rfl, h.c 3 rfl⟩
  · exact ⟨h.c 4 rfl, h.c 5 rfl⟩
theorem l_at {w : World} {g : Nat} {T : Nat → Int} (h : HV w g [.int .i64 (T 0), .int .i64 (T 1), .int .i64 (T 2)]) {i : Nat} (hi : i < 3) : w.cell? ⟨g, i, none⟩ = some (.int .i64 (T i)) ∧ w.frozen? ⟨g, i, none⟩ = false := by
  obtain rfl | rfl | rfl : i = 0 ∨ i = 1 ∨ i = 2 := by omega
  · exact ⟨h.c 0 rfl, h.f 0 rfl⟩
  · exact ⟨h.c 1 rfl, h.f 1 rfl⟩
  · exact ⟨h.c 2 rfl, h.f 2 rfl⟩
theorem l_set {w : World} {g : Nat} {T : Nat → Int} (h : HV w g [.int .i64 (T 0), .int .i64 (T 1), .int .i64 (T 2)]) {i : Nat} (hi : i < 3) (r : Int) : HV (w.setCell ⟨g, i, none⟩ (.int .i64 r)) g [.int .i64 ((fun k => if k = i then r else T k) 0), .int .i64 ((fun k => if k = i then r else T k) 1), .int .i64 ((fun k => if k = i then r else T k) 2)] := by
  obtain rfl | rfl | rfl : i = 0 ∨ i = 1 ∨ i = 2 := by omega
  · exact h.set 0 _
  · exact h.set 1 _
  · exact h.set 2 _
theorem vres_fail {qf : Nat → Int} {i : Nat} (hi : i < 3) (h : (fitR (qf i)).2 ≠ 0) : vres (qf 0) (qf 1) (qf 2) = .tuple #[.agg #[.int .i64 0, .int .i64 0, .int .i64 0], .int .i64 (fitR (qf i)).2] := by
  have hk : okW (qf i) = false := by
    cases e : okW (qf i)
    · rfl
    · exact absurd (by unfold fitR; rw [if_pos e]) h
  have h2 : (fitR (qf i)).2 = 2 := by unfold fitR; rw [hk]; rfl
  rw [h2]
  have h3 : ok3 (qf 0) (qf 1) (qf 2) = false := by
    unfold ok3
    obtain rfl | rfl | rfl : i = 0 ∨ i = 1 ∨ i = 2 := by omega
    · rw [hk]; rfl
    · rw [hk]; cases okW (qf 0) <;> rfl
    · rw [hk]; cases okW (qf 0) <;> cases okW (qf 1) <;> rfl
  unfold vres; rw [h3]; rfl
set_option maxRecDepth 20000 in
set_option maxHeartbeats 16000000 in
theorem rapply_raw (b0 b1 b2 h0 h1 h2 rf : Int) (m : Nat → Int) (qf : Nat → Int) (x y z t d u0 u1 u2 : Int) (w : World) (hd : wrap64 (t - rf) = d)
    (HL1 : Hid (∀ w', Calls Try.prog 21 #[.int .i64 x, .int .i64 b0, .int .i64 h0, .int .i64 d] w' fun e w'' => (∃ r, e = .returned r ∧ IsI w'' r (u0)) ∧ Ext w' w''))
    (HL2 : Hid (∀ w', Calls Try.prog 21 #[.int .i64 y, .int .i64 b1, .int .i64 h1, .int .i64 d] w' fun e w'' => (∃ r, e = .returned r ∧ IsI w'' r (u1)) ∧ Ext w' w''))
    (HL3 : Hid (∀ w', Calls Try.prog 21 #[.int .i64 z, .int .i64 b2, .int .i64 h2, .int .i64 d] w' fun e w'' => (∃ r, e = .returned r ∧ IsI w'' r (u2)) ∧ Ext w' w''))
    (HF : Hid (∀ k w', k < 9 → Calls Try.prog 22 #[.int .i64 (m k)] w' fun e w'' => (∃ r, e = .returned r ∧ IsI w'' r (m k)) ∧ Ext w' w''))
    (HZ : Hid (∀ w', Calls Try.prog 22 #[.int .i64 0] w' fun e w'' => (∃ r, e = .returned r ∧ IsI w'' r (0)) ∧ Ext w' w''))
    (HT : Hid (∀ k j r1 r2 w', k < 9 → j < 3 → IsI w' r1 (m k) → IsI w' r2 (uf u0 u1 u2 j) → Calls Try.prog 24 #[r1, r2] w' fun e w'' => (∃ r, e = .returned r ∧ IsI w'' r (m k * uf u0 u1 u2 j)) ∧ Ext w' w''))
    (HP : Hid (∀ i j r1 r2 w', i < 3 → j < 3 → IsI w' r1 (sumTo (fun k => m (3 * i + k) * uf u0 u1 u2 k) j) → IsI w' r2 (m (3 * i + j) * uf u0 u1 u2 j) → Calls Try.prog 23 #[r1, r2] w' fun e w'' => (∃ r, e = .returned r ∧ IsI w'' r (sumTo (fun k => m (3 * i + k) * uf u0 u1 u2 k) (j + 1))) ∧ Ext w' w''))
    (HN : Hid (∀ i r w', i < 3 → IsI w' r (sumTo (fun k => m (3 * i + k) * uf u0 u1 u2 k) 3) → Calls Try.prog 25 #[r] w' fun e w'' => e = .returned (.tuple #[.int .i64 (fitR (qf i)).1, .int .i64 (fitR (qf i)).2]) ∧ Ext w' w'')) :
    Calls Try.prog 9 #[.agg #[.int .i64 b0, .int .i64 b1, .int .i64 b2, .int .i64 h0, .int .i64 h1, .int .i64 h2, .int .i64 rf, .int .i64 (m 0), .int .i64 (m 1), .int .i64 (m 2), .int .i64 (m 3), .int .i64 (m 4), .int .i64 (m 5), .int .i64 (m 6), .int .i64 (m 7), .int .i64 (m 8)], .agg #[.int .i64 x, .int .i64 y, .int .i64 z, .int .i64 t]] w fun e w' => e = .returned (vres (qf 0) (qf 1) (qf 2)) ∧ Ext w w' := by
  have B1 : Hid (HV (((w.alloc (.cells #[.int .i64 b0, .int .i64 b1, .int .i64 b2, .int .i64 h0, .int .i64 h1, .int .i64 h2, .int .i64 rf, .int .i64 (m 0), .int .i64 (m 1), .int .i64 (m 2), .int .i64 (m 3), .int .i64 (m 4), .int .i64 (m 5), .int .i64 (m 6), .int .i64 (m 7), .int .i64 (m 8)] 27)).alloc (.cells #[.int .i64 x, .int .i64 y, .int .i64 z, .int .i64 t] 29)).alloc (.cells #[.int .i64 0, .int .i64 0, .int .i64 0] 24)) w.heap.size [.int .i64 b0, .int .i64 b1, .int .i64 b2, .int .i64 h0, .int .i64 h1, .int .i64 h2, .int .i64 rf, .int .i64 (m 0), .int .i64 (m 1), .int .i64 (m 2), .int .i64 (m 3), .int .i64 (m 4), .int .i64 (m 5), .int .i64 (m 6), .int .i64 (m 7), .int .i64 (m 8)]) := ((hv_at rfl).alloc _).alloc _
  have B2 : Hid (HV (((w.alloc (.cells #[.int .i64 b0, .int .i64 b1, .int .i64 b2, .int .i64 h0, .int .i64 h1, .int .i64 h2, .int .i64 rf, .int .i64 (m 0), .int .i64 (m 1), .int .i64 (m 2), .int .i64 (m 3), .int .i64 (m 4), .int .i64 (m 5), .int .i64 (m 6), .int .i64 (m 7), .int .i64 (m 8)] 27)).alloc (.cells #[.int .i64 x, .int .i64 y, .int .i64 z, .int .i64 t] 29)).alloc (.cells #[.int .i64 0, .int .i64 0, .int .i64 0] 24)) (w.heap.size + 1) [.int .i64 x, .int .i64 y, .int .i64 z, .int .i64 t]) := (hv_at (by simp)).alloc _
  have B3 : Hid (HV (((w.alloc (.cells #[.int .i64 b0, .int .i64 b1, .int .i64 b2, .int .i64 h0, .int .i64 h1, .int .i64 h2, .int .i64 rf, .int .i64 (m 0), .int .i64 (m 1), .int .i64 (m 2), .int .i64 (m 3), .int .i64 (m 4), .int .i64 (m 5), .int .i64 (m 6), .int .i64 (m 7), .int .i64 (m 8)] 27)).alloc (.cells #[.int .i64 x, .int .i64 y, .int .i64 z, .int .i64 t] 29)).alloc (.cells #[.int .i64 0, .int .i64 0, .int .i64 0] 24)) (w.heap.size + 2) [.int .i64 0, .int .i64 0, .int .i64 0]) := hv_at (by simp)
  have HX : Hid (Ext w (((w.alloc (.cells #[.int .i64 b0, .int .i64 b1, .int .i64 b2, .int .i64 h0, .int .i64 h1, .int .i64 h2, .int .i64 rf, .int .i64 (m 0), .int .i64 (m 1), .int .i64 (m 2), .int .i64 (m 3), .int .i64 (m 4), .int .i64 (m 5), .int .i64 (m 6), .int .i64 (m 7), .int .i64 (m 8)] 27)).alloc (.cells #[.int .i64 x, .int .i64 y, .int .i64 z, .int .i64 t] 29)).alloc (.cells #[.int .i64 0, .int .i64 0, .int .i64 0] 24))) := (((Ext.refl w).alloc _).alloc _).alloc _
  go_enter Try.func9, Try.ntmps9
  go_upto_region 2 with fail
  rw [hd]
  clear hd
  generalize (((w.alloc (.cells #[.int .i64 b0, .int .i64 b1, .int .i64 b2, .int .i64 h0, .int .i64 h1, .int .i64 h2, .int .i64 rf, .int .i64 (m 0), .int .i64 (m 1), .int .i64 (m 2), .int .i64 (m 3), .int .i64 (m 4), .int .i64 (m 5), .int .i64 (m 6), .int .i64 (m 7), .int .i64 (m 8)] 27)).alloc (.cells #[.int .i64 x, .int .i64 y, .int .i64 z, .int .i64 t] 29)).alloc (.cells #[.int .i64 0, .int .i64 0, .int .i64 0] 24)) = wB at *
  obtain ⟨k0, k1, k2, k3, k4, k5, k6, k7, k8, k9, k10, k11, k12, k13, k14, k15⟩ := B1.out.k16
  obtain ⟨p0, p1, p2, p3⟩ := B2.out.k4
  have e01a := Nat.ne_of_lt B1.out.1
  have e01b := Nat.ne_of_gt B1.out.1
  have e02a := Nat.ne_of_lt B2.out.1
  have e02b := Nat.ne_of_gt B2.out.1
  clear k6 k7 k8 k9 k10 k11 k12 k13 k14 k15 p3
  go_cut [7] (fun v wx => ∃ (g : Nat) (B : Nat → Bool) (A : Nat → Option Addr) (L K : Nat → Nat), v = .pointer (some ⟨g, 0, none⟩) ∧ Hid (wB.heap.size ≤ g ∧ HV wx g [.bool (B 0), .slice (A 0) (L 0) (K 0), .bool (B 1), .slice (A 1) (L 1) (K 1), .bool (B 2), .slice (A 2) (L 2) (K 2)] ∧ IsI wx (.agg #[.bool (B 0), .slice (A 0) (L 0) (K 0)]) u0 ∧ IsI wx (.agg #[.bool (B 1), .slice (A 1) (L 1) (K 1)]) u1 ∧ IsI wx (.agg #[.bool (B 2), .slice (A 2) (L 2) (K 2)]) u2 ∧ Ext wB wx))
  case first =>
    go_region_held3 (fun w' => w'.cell? ⟨w.heap.size, 0, none⟩ = some (.int .i64 b0) ∧ w'.cell? ⟨w.heap.size, 1, none⟩ = some (.int .i64 b1) ∧ w'.cell? ⟨w.heap.size, 2, none⟩ = some (.int .i64 b2) ∧ w'.cell? ⟨w.heap.size, 3, none⟩ = some (.int .i64 h0) ∧ w'.cell? ⟨w.heap.size, 4, none⟩ = some (.int .i64 h1) ∧ w'.cell? ⟨w.heap.size, 5, none⟩ = some (.int .i64 h2) ∧ w'.cell? ⟨w.heap.size + 1, 0, none⟩ = some (.int .i64 x) ∧ w'.cell? ⟨w.heap.size + 1, 1, none⟩ = some (.int .i64 y) ∧ w'.cell? ⟨w.heap.size + 1, 2, none⟩ = some (.int .i64 z)) (first | (go_keep; done) | skip) (first | (go_at_call_of 21 (Value.int IntKind.i64 x); refine (HL1.out _).mono ?_; rintro e w1 ⟨⟨r1, rfl, hr1⟩, x1⟩; have Y1 : Ext wB w1 := Ext.trans (by repeat (first | with_reducible assumption | with_reducible exact Ext.refl _ | with_reducible refine Ext.drew ?_ | with_reducible refine Ext.drewN ?_ _ | with_reducible refine Ext.alloc ?_ _ | with_reducible refine Ext.set ?_ (by first | exact Nat.le_refl _ | (dsimp only; omega) | (simp; done)) _)) x1; (obtain ⟨q1, hq1, hk1⟩ := hr1); (obtain ⟨au1, lu1, cu1, hau1⟩ := hk1.isSlice); subst hau1; subst hq1; have I1 : Hid (IsI w1 (.agg #[.bool (decide (u0 < 0)), .slice au1 lu1 cu1]) u0) := ⟨_, rfl, hk1⟩; clear hk1; obtain ⟨k1_0, k1_1, k1_2, k1_3, k1_4, k1_5, k1_6, k1_7, k1_8, k1_9, k1_10, k1_11, k1_12, k1_13, k1_14, k1_15⟩ := (B1.out.ext Y1).k16; obtain ⟨p1_0, p1_1, p1_2, p1_3⟩ := (B2.out.ext Y1).k4; (first | (have N : Hid (HV w1 _ [.bool false, .slice none 0 0, .bool false, .slice none 0 0, .bool false, .slice none 0 0]) := N.out.ext x1) | (have N : Hid (HV w1 _ [.bool false, .slice none 0 0, .bool false, .slice none 0 0, .bool false, .slice none 0 0]) := (hv_at rfl).ext x1) | (have N : Hid (HV w1 _ [.bool false, .slice none 0 0, .bool false, .slice none 0 0, .bool false, .slice none 0 0]) := (HV.drew (hv_at rfl)).ext x1) | skip); have e11a := Nat.ne_of_lt (B1.out.ext Y1).1; have e11b := Nat.ne_of_gt (B1.out.ext Y1).1; have e12a := Nat.ne_of_lt (B2.out.ext Y1).1; have e12b := Nat.ne_of_gt (B2.out.ext Y1).1) | (go_at_call_of 21 (Value.int IntKind.i64 y); refine (HL2.out _).mono ?_; rintro e w2 ⟨⟨r2, rfl, hr2⟩, x2⟩; have Y2 : Ext wB w2 := Ext.trans (by repeat (first | with_reducible assumption | with_reducible exact Ext.refl _ | with_reducible refine Ext.drew ?_ | with_reducible refine Ext.drewN ?_ _ | with_reducible refine Ext.alloc ?_ _ | with_reducible refine Ext.set ?_ (by first | exact Nat.le_refl _ | (dsimp only; omega) | (simp; done)) _)) x2; (obtain ⟨q2, hq2, hk2⟩ := hr2); (obtain ⟨au2, lu2, cu2, hau2⟩ := hk2.isSlice); subst hau2; subst hq2; have I2 : Hid (IsI w2 (.agg #[.bool (decide (u1 < 0)), .slice au2 lu2 cu2]) u1) := ⟨_, rfl, hk2⟩; clear hk2; have I1 : Hid (IsI w2 (.agg #[.bool (decide (u0 < 0)), .slice au1 lu1 cu1]) u0) := I1.out.ext (Ext.trans (by repeat (first | with_reducible assumption | with_reducible exact Ext.refl _ | with_reducible refine Ext.drew ?_ | with_reducible refine Ext.drewN ?_ _ | with_reducible refine Ext.alloc ?_ _ | with_reducible refine Ext.set ?_ (by first | exact Nat.le_refl _ | (dsimp only; omega) | (simp; done)) _)) x2); obtain ⟨k2_0, k2_1, k2_2, k2_3, k2_4, k2_5, k2_6, k2_7, k2_8, k2_9, k2_10, k2_11, k2_12, k2_13, k2_14, k2_15⟩ := (B1.out.ext Y2).k16; obtain ⟨p2_0, p2_1, p2_2, p2_3⟩ := (B2.out.ext Y2).k4; (first | (have N : Hid (HV w2 _ [.bool false, .slice none 0 0, .bool false, .slice none 0 0, .bool false, .slice none 0 0]) := N.out.ext x2) | (have N : Hid (HV w2 _ [.bool false, .slice none 0 0, .bool false, .slice none 0 0, .bool false, .slice none 0 0]) := (hv_at rfl).ext x2) | (have N : Hid (HV w2 _ [.bool false, .slice none 0 0, .bool false, .slice none 0 0, .bool false, .slice none 0 0]) := (HV.drew (hv_at rfl)).ext x2) | skip); have e21a := Nat.ne_of_lt (B1.out.ext Y2).1; have e21b := Nat.ne_of_gt (B1.out.ext Y2).1; have e22a := Nat.ne_of_lt (B2.out.ext Y2).1; have e22b := Nat.ne_of_gt (B2.out.ext Y2).1) | (go_at_call_of 21 (Value.int IntKind.i64 z); refine (HL3.out _).mono ?_; rintro e w3 ⟨⟨r3, rfl, hr3⟩, x3⟩; have Y3 : Ext wB w3 := Ext.trans (by repeat (first | with_reducible assumption | with_reducible exact Ext.refl _ | with_reducible refine Ext.drew ?_ | with_reducible refine Ext.drewN ?_ _ | with_reducible refine Ext.alloc ?_ _ | with_reducible refine Ext.set ?_ (by first | exact Nat.le_refl _ | (dsimp only; omega) | (simp; done)) _)) x3; (obtain ⟨q3, hq3, hk3⟩ := hr3); (obtain ⟨au3, lu3, cu3, hau3⟩ := hk3.isSlice); subst hau3; subst hq3; have I3 : Hid (IsI w3 (.agg #[.bool (decide (u2 < 0)), .slice au3 lu3 cu3]) u2) := ⟨_, rfl, hk3⟩; clear hk3; have I1 : Hid (IsI w3 (.agg #[.bool (decide (u0 < 0)), .slice au1 lu1 cu1]) u0) := I1.out.ext (Ext.trans (by repeat (first | with_reducible assumption | with_reducible exact Ext.refl _ | with_reducible refine Ext.drew ?_ | with_reducible refine Ext.drewN ?_ _ | with_reducible refine Ext.alloc ?_ _ | with_reducible refine Ext.set ?_ (by first | exact Nat.le_refl _ | (dsimp only; omega) | (simp; done)) _)) x3); have I2 : Hid (IsI w3 (.agg #[.bool (decide (u1 < 0)), .slice au2 lu2 cu2]) u1) := I2.out.ext (Ext.trans (by repeat (first | with_reducible assumption | with_reducible exact Ext.refl _ | with_reducible refine Ext.drew ?_ | with_reducible refine Ext.drewN ?_ _ | with_reducible refine Ext.alloc ?_ _ | with_reducible refine Ext.set ?_ (by first | exact Nat.le_refl _ | (dsimp only; omega) | (simp; done)) _)) x3); obtain ⟨k3_0, k3_1, k3_2, k3_3, k3_4, k3_5, k3_6, k3_7, k3_8, k3_9, k3_10, k3_11, k3_12, k3_13, k3_14, k3_15⟩ := (B1.out.ext Y3).k16; obtain ⟨p3_0, p3_1, p3_2, p3_3⟩ := (B2.out.ext Y3).k4; (first | (have N : Hid (HV w3 _ [.bool false, .slice none 0 0, .bool false, .slice none 0 0, .bool false, .slice none 0 0]) := N.out.ext x3) | (have N : Hid (HV w3 _ [.bool false, .slice none 0 0, .bool false, .slice none 0 0, .bool false, .slice none 0 0]) := (hv_at rfl).ext x3) | (have N : Hid (HV w3 _ [.bool false, .slice none 0 0, .bool false, .slice none 0 0, .bool false, .slice none 0 0]) := (HV.drew (hv_at rfl)).ext x3) | skip); have e31a := Nat.ne_of_lt (B1.out.ext Y3).1; have e31b := Nat.ne_of_gt (B1.out.ext Y3).1; have e32a := Nat.ne_of_lt (B2.out.ext Y3).1; have e32b := Nat.ne_of_gt (B2.out.ext Y3).1; (first | (obtain ⟨n0, n1, n2, n3, n4, n5⟩ := N.out.k6; obtain ⟨o0, o1, o2, o3, o4, o5⟩ := N.out.z6) | skip)))
    all_goals
      go_wp2_with fail
      go_meet
      first | (with_reducible exact ⟨_, (fun j => if j = 0 then decide (u0 < 0) else if j = 1 then decide (u1 < 0) else decide (u2 < 0)), (fun j => if j = 0 then au1 else if j = 1 then au2 else au3), (fun j => if j = 0 then lu1 else if j = 1 then lu2 else lu3), (fun j => if j = 0 then cu1 else if j = 1 then cu2 else cu3), rfl, Y3.size, hv_at rfl, I1.out.ext ((Ext.refl _).alloc _), I2.out.ext ((Ext.refl _).alloc _), I3.out.ext ((Ext.refl _).alloc _), Y3.alloc _⟩) | exact ⟨_, (fun j => if j = 0 then decide (u0 < 0) else if j = 1 then decide (u1 < 0) else decide (u2 < 0)), (fun j => if j = 0 then au1 else if j = 1 then au2 else au3), (fun j => if j = 0 then lu1 else if j = 1 then lu2 else lu3), (fun j => if j = 0 then cu1 else if j = 1 then cu2 else cu3), rfl, Y3.size, hv_at rfl, I1.out.ext ((Ext.refl _).alloc _), I2.out.ext ((Ext.refl _).alloc _), I3.out.ext ((Ext.refl _).alloc _), Y3.alloc _⟩ | (refine ⟨_, (fun j => if j = 0 then decide (u0 < 0) else if j = 1 then decide (u1 < 0) else decide (u2 < 0)), (fun j => if j = 0 then au1 else if j = 1 then au2 else au3), (fun j => if j = 0 then lu1 else if j = 1 then lu2 else lu3), (fun j => if j = 0 then cu1 else if j = 1 then cu2 else cu3), rfl, ?_, N.out.put6 _ _ _ _ _ _, I1.out.put6 N.out _ _ _ _ _ _, I2.out.put6 N.out _ _ _ _ _ _, I3.out.put6 N.out _ _ _ _ _ _, Y3.put6 ?_ _ _ _ _ _ _⟩ <;> first | exact Nat.le_refl _ | exact Y1.size | exact Y2.size)
  case rest =>
    obtain ⟨g, B, A, L, K, rfl, hcut⟩ := hcut
    obtain ⟨hg, hU, i0, i1, i2, hE⟩ := hcut.out
    have Fc : Hid (HV wc w.heap.size [.int .i64 b0, .int .i64 b1, .int .i64 b2, .int .i64 h0, .int .i64 h1, .int .i64 h2, .int .i64 rf, .int .i64 (m 0), .int .i64 (m 1), .int .i64 (m 2), .int .i64 (m 3), .int .i64 (m 4), .int .i64 (m 5), .int .i64 (m 6), .int .i64 (m 7), .int .i64 (m 8)]) := B1.out.ext hE
    have Fz : Hid (HV wc (w.heap.size + 2) [.int .i64 0, .int .i64 0, .int .i64 0]) := B3.out.ext hE
    have Fu : Hid (HV wc g [.bool (B 0), .slice (A 0) (L 0) (K 0), .bool (B 1), .slice (A 1) (L 1) (K 1), .bool (B 2), .slice (A 2) (L 2) (K 2)]) := hU
    have FX : Hid (Ext w wc) := HX.out.trans hE
    have IU : Hid (∀ j, j < 3 → IsI wc (.agg #[.bool (B j), .slice (A j) (L j) (K j)]) (uf u0 u1 u2 j)) := fun j hj => by
      obtain rfl | rfl | rfl : j = 0 ∨ j = 1 ∨ j = 2 := by omega
      · exact i0
      · exact i1
      · exact i2
    have lz : Hid (w.heap.size ≤ w.heap.size + 2) := Nat.le_add_right _ _
    clear hcut hU i0 i1 i2 hE hg B1 B2 B3 HX HL1 HL2 HL3 k0 k1 k2 k3 k4 k5 p0 p1 p2 e01a e01b e02a e02b
    go_wp2_with fail
    go_loopw [9] (fun v wr => ∃ i : Nat, i ≤ 3 ∧ v = .int .i64 (i : Int) ∧ ∃ T : Nat → Int, Hid (HV wr wc.heap.size [.int .i64 (T 0), .int .i64 (T 1), .int .i64 (T 2)] ∧ Ext wc wr ∧ ∀ k, k < i → (fitR (qf k)).2 = 0 ∧ T k = (fitR (qf k)).1)) (fun v _ => 3 - (intOf v).toNat)
    case atStart => exact ⟨0, by omega, rfl, fun _ => 0, hv_at rfl, ((Ext.refl _).alloc _), fun k hk => by omega⟩
    case round =>
      obtain ⟨i, hi, rfl, T, hT⟩ := hrel
      have Fc : Hid (HV wr w.heap.size [.int .i64 b0, .int .i64 b1, .int .i64 b2, .int .i64 h0, .int .i64 h1, .int .i64 h2, .int .i64 rf, .int .i64 (m 0), .int .i64 (m 1), .int .i64 (m 2), .int .i64 (m 3), .int .i64 (m 4), .int .i64 (m 5), .int .i64 (m 6), .int .i64 (m 7), .int .i64 (m 8)]) := Fc.out.ext hT.out.2.1
      have Fz : Hid (HV wr (w.heap.size + 2) [.int .i64 0, .int .i64 0, .int .i64 0]) := Fz.out.ext hT.out.2.1
      have Fu : Hid (HV wr g [.bool (B 0), .slice (A 0) (L 0) (K 0), .bool (B 1), .slice (A 1) (L 1) (K 1), .bool (B 2), .slice (A 2) (L 2) (K 2)]) := Fu.out.ext hT.out.2.1
      have IU : Hid (∀ j, j < 3 → IsI wr (.agg #[.bool (B j), .slice (A j) (L j) (K j)]) (uf u0 u1 u2 j)) := fun j hj => (IU.out j hj).ext hT.out.2.1
      have lw : Hid (w.heap.size ≤ wc.heap.size) := FX.out.size
      have ltz : Hid (w.heap.size + 2 < wr.heap.size) := Fz.out.1
      have FX : Hid (Ext w wr) := FX.out.trans hT.out.2.1
      by_cases hi3 : i < 3
      · have ix : (i : Int) < 3 := by omega
        have HZ := HZ.out
        have HZ : Hid _ := HZ
        have HNi := fun r w' => HN.out i r w' hi3
        have HNi : Hid _ := HNi
        have HPi := fun j r1 r2 w' hj => HP.out i j r1 r2 w' hi3 hj
        have HPi : Hid _ := HPi
        generalize wr = wb at *
        generalize hnl : wc.heap.size = nl at *
        go_wp2_with fail
        refine (HZ.out _).mono ?_
        rintro e w1 ⟨⟨r, rfl, hr⟩, x⟩
        have Fc : Hid (HV w1 w.heap.size [.int .i64 b0, .int .i64 b1, .int .i64 b2, .int .i64 h0, .int .i64 h1, .int .i64 h2, .int .i64 rf, .int .i64 (m 0), .int .i64 (m 1), .int .i64 (m 2), .int .i64 (m 3), .int .i64 (m 4), .int .i64 (m 5), .int .i64 (m 6), .int .i64 (m 7), .int .i64 (m 8)]) := Fc.out.ext x
        have Fz : Hid (HV w1 (w.heap.size + 2) [.int .i64 0, .int .i64 0, .int .i64 0]) := Fz.out.ext x
        have Fu : Hid (HV w1 g [.bool (B 0), .slice (A 0) (L 0) (K 0), .bool (B 1), .slice (A 1) (L 1) (K 1), .bool (B 2), .slice (A 2) (L 2) (K 2)]) := Fu.out.ext x
        have Fl : Hid (HV w1 nl [.int .i64 (T 0), .int .i64 (T 1), .int .i64 (T 2)]) := hT.out.1.ext x
        have IU : Hid (∀ j, j < 3 → IsI w1 (.agg #[.bool (B j), .slice (A j) (L j) (K j)]) (uf u0 u1 u2 j)) := fun j hj => (IU.out j hj).ext x
        have FX : Hid (Ext w w1) := FX.out.trans x
        have FE : Hid (Ext wc w1) := hT.out.2.1.trans x
        (obtain ⟨q, hq, hk⟩ := hr); (obtain ⟨sa0, sl0, sc0, hs⟩ := hk.isSlice); subst hs; subst hq
        have IS : Hid (IsI w1 (.agg #[.bool (decide ((0 : Int) < 0)), .slice sa0 sl0 sc0]) (sumTo (fun k => m (3 * i + k) * uf u0 u1 u2 k) 0)) := ⟨_, rfl, hk⟩
        have HTk : Hid (∀ k, k < i → (fitR (qf k)).2 = 0 ∧ T k = (fitR (qf k)).1) := hT.out.2.2
        clear hk x hT
        go_wp2_with fail
        have Lx : Hid (w.heap.size ≤ w1.heap.size) := FX.out.size
        have Lc : Hid (nl ≤ w1.heap.size) := by rw [← hnl]; exact FE.out.size
        have lls : Hid (nl < w1.heap.size) := Fl.out.1
        go_loopw [11] (fun v wr => ∃ j : Nat, j ≤ 3 ∧ v = .int .i64 (j : Int) ∧ ∃ (sb : Bool) (sa : Option Addr) (sl sc : Nat), Hid (HV wr w1.heap.size [.bool sb, .slice sa sl sc] ∧ IsI wr (.agg #[.bool sb, .slice sa sl sc]) (sumTo (fun k => m (3 * i + k) * uf u0 u1 u2 k) j) ∧ Ext w1 wr)) (fun v _ => 3 - (intOf v).toNat)
        case atStart => exact ⟨0, by omega, rfl, false, sa0, sl0, sc0, hv_at rfl, IS.out.ext ((Ext.refl _).alloc _), ((Ext.refl _).alloc _)⟩
        case round =>
          obtain ⟨j, hj, rfl, sb, sa, sl, sc, hS⟩ := hrel
          by_cases hlt : j < 3
          · have kx : (j : Int) < 3 := by omega
            have HF1 : Hid (∀ w', Calls Try.prog 22 #[.int .i64 (m (3 * i + j))] w' fun e w'' => (∃ r, e = .returned r ∧ IsI w'' r (m (3 * i + j))) ∧ Ext w' w'') := fun w' => HF.out (3 * i + j) w' (by omega)
            have HT1 := fun r1 r2 w' => HT.out (3 * i + j) j r1 r2 w' (by omega) hlt
            have HP1 := fun r1 r2 w' => HPi.out j r1 r2 w' hlt
            have HT1 : Hid _ := HT1
            have HP1 : Hid _ := HP1
            have cs0 : wr.cell? ⟨w1.heap.size, 0, none⟩ = some (.bool sb) := hS.out.1.c 0 rfl
            have cs1 : wr.cell? ⟨w1.heap.size, 1, none⟩ = some (.slice sa sl sc) := hS.out.1.c 1 rfl
            have cf0 : wr.frozen? ⟨w1.heap.size, 0, none⟩ = false := hS.out.1.f 0 rfl
            have cf1 : wr.frozen? ⟨w1.heap.size, 1, none⟩ = false := hS.out.1.f 1 rfl
            have cm : wr.cell? ⟨w.heap.size, 7 + (3 * i + j), none⟩ = some (.int .i64 (m (3 * i + j))) := m_at (Fc.out.ext hS.out.2.2) (by omega)
            obtain ⟨cu0, cu1⟩ := u_at (Fu.out.ext hS.out.2.2) hlt
            have e1 : IntKind.i64.wrap (3 * (i : Int)) = 3 * (i : Int) := by rw [IntKind.wrap_i64]; omega
            have e2 : IntKind.i64.wrap (3 * (i : Int) + (j : Int)) = ((3 * i + j : Nat) : Int) := by rw [IntKind.wrap_i64]; omega
            have e3 : ((3 * i + j : Nat) : Int) < 9 := by omega
            have e6 : (0 : Int) ≤ ((3 * i + j : Nat) : Int) := by omega
            generalize hqq : 3 * i + j = qq at *
            obtain ⟨S1, hS1⟩ : ∃ S1, sumTo (fun k => m (3 * i + k) * uf u0 u1 u2 k) (j + 1) = S1 := ⟨_, rfl⟩
            have HS1 : Hid _ := hS1
            rw [hS1] at HP1
            clear hS1 hqq HF HT HZ HN HP HNi HPi HTk IS Fl Fz FE FX
            go_wp2_with fail
            go_region_with (first | (go_at_call 22; refine (HF1.out _).mono ?_; rintro e v1 ⟨⟨r1, rfl, hr1⟩, x1⟩; have y1 : Ext wr v1 := Ext.trans (by repeat (first | with_reducible assumption | with_reducible exact Ext.refl _ | with_reducible refine Ext.drew ?_ | with_reducible refine Ext.drewN ?_ _ | with_reducible refine Ext.alloc ?_ _ | with_reducible refine Ext.set ?_ (by first | exact Nat.le_refl _ | (dsimp only; omega) | (simp; done)) _)) x1; have hr1 : Hid _ := hr1; have av10 : v1.cell? ⟨w1.heap.size, 0, none⟩ = some (.bool sb) := (hS.out.1.ext y1).c 0 rfl; have av11 : v1.cell? ⟨w1.heap.size, 1, none⟩ = some (.slice sa sl sc) := (hS.out.1.ext y1).c 1 rfl; have bv10 : v1.frozen? ⟨w1.heap.size, 0, none⟩ = false := (hS.out.1.ext y1).f 0 rfl; have bv11 : v1.frozen? ⟨w1.heap.size, 1, none⟩ = false := (hS.out.1.ext y1).f 1 rfl; have cv10 := (u_at (Fu.out.ext (hS.out.2.2.trans y1)) hlt).1; have cv11 := (u_at (Fu.out.ext (hS.out.2.2.trans y1)) hlt).2) | (go_at_call 24; refine (HT1.out _ _ _ hr1.out ((IU.out j hlt).ext (hS.out.2.2.trans y1))).mono ?_; rintro e v2 ⟨⟨r2, rfl, hr2⟩, x2⟩; have y2 : Ext wr v2 := y1.trans x2; have hr2 : Hid _ := hr2; have av20 : v2.cell? ⟨w1.heap.size, 0, none⟩ = some (.bool sb) := (hS.out.1.ext y2).c 0 rfl; have av21 : v2.cell? ⟨w1.heap.size, 1, none⟩ = some (.slice sa sl sc) := (hS.out.1.ext y2).c 1 rfl; have bv20 : v2.frozen? ⟨w1.heap.size, 0, none⟩ = false := (hS.out.1.ext y2).f 0 rfl; have bv21 : v2.frozen? ⟨w1.heap.size, 1, none⟩ = false := (hS.out.1.ext y2).f 1 rfl) | (go_at_call 23; refine (HP1.out _ _ _ (hS.out.2.1.ext y2) hr2.out).mono ?_; rintro e v3 ⟨⟨r3, rfl, hr3⟩, x3⟩; have y3 : Ext wr v3 := y2.trans x3; have av30 : v3.cell? ⟨w1.heap.size, 0, none⟩ = some (.bool sb) := (hS.out.1.ext y3).c 0 rfl; have av31 : v3.cell? ⟨w1.heap.size, 1, none⟩ = some (.slice sa sl sc) := (hS.out.1.ext y3).c 1 rfl; have bv30 : v3.frozen? ⟨w1.heap.size, 0, none⟩ = false := (hS.out.1.ext y3).f 0 rfl; have bv31 : v3.frozen? ⟨w1.heap.size, 1, none⟩ = false := (hS.out.1.ext y3).f 1 rfl; (obtain ⟨q3, hq3, hk3⟩ := hr3); (obtain ⟨sa3, sl3, sc3, hs3⟩ := hk3.isSlice); subst hs3; subst hq3; have I3 : Hid (IsI v3 (.agg #[.bool (decide (S1 < 0)), .slice sa3 sl3 sc3]) S1) := ⟨_, rfl, hk3⟩; clear hk3))
            all_goals
              have hV3 := hS.out.1.ext y3
              have hE3 := hS.out.2.2.trans y3
              go_wp2_with fail
              go_roundw
              case rel => exact ⟨j + 1, by omega, by go_num, _, _, _, _, (hV3.set 0 _).set 1 _, by rw [HS1.out]; exact I3.out.set2 (hV3.c 0 rfl) (hV3.c 1 rfl), (hE3.set (p := ⟨_, 0, none⟩) (Nat.le_refl _) _).set (p := ⟨_, 1, none⟩) (Nat.le_refl _) _⟩
              case measure => simp [intOf]; omega
          · have hj3 : j = 3 := by omega
            subst hj3
            have cs0 : wr.cell? ⟨w1.heap.size, 0, none⟩ = some (.bool sb) := hS.out.1.c 0 rfl
            have cs1 : wr.cell? ⟨w1.heap.size, 1, none⟩ = some (.slice sa sl sc) := hS.out.1.c 1 rfl
            go_wp2_with fail
            refine (HNi.out _ _ hS.out.2.1).mono ?_
            rintro e w2 ⟨rfl, x2⟩
            have Fz : Hid (HV w2 (w.heap.size + 2) [.int .i64 0, .int .i64 0, .int .i64 0]) := Fz.out.ext (hS.out.2.2.trans x2)
            have Fl : Hid (HV w2 nl [.int .i64 (T 0), .int .i64 (T 1), .int .i64 (T 2)]) := Fl.out.ext (hS.out.2.2.trans x2)
            have FX : Hid (Ext w w2) := FX.out.trans (hS.out.2.2.trans x2)
            have FE : Hid (Ext wc w2) := FE.out.trans (hS.out.2.2.trans x2)
            have hfit : Hid ((fitR (qf i)).2 ≠ 0 → vres (qf 0) (qf 1) (qf 2) = .tuple #[.agg #[.int .i64 0, .int .i64 0, .int .i64 0], .int .i64 (fitR (qf i)).2]) := fun h => vres_fail hi3 h
            have HTk : Hid (∀ k, k < i + 1 → (fitR (qf i)).2 = 0 → (fitR (qf k)).2 = 0 ∧ (if k = i then (fitR (qf i)).1 else T k) = (fitR (qf k)).1) := fun k hk h => by
              by_cases e : k = i
              · subst e; exact ⟨h, if_pos rfl⟩
              · rw [if_neg e]; exact HTk.out k (by omega)
            clear x2 hS cs0 cs1 HNi HPi HF HT HZ HN HP IS IU Fu Fc
            generalize (fitR (qf i)).1 = fr at *
            generalize (fitR (qf i)).2 = fe at *
            by_cases he : fe = 0
            · subst he
              have tl := l_at Fl.out hi3
              go_wp2_with fail
              go_roundw
              case rel => exact ⟨i + 1, by omega, by go_num, fun k => if k = i then fr else T k, by first | exact l_set Fl.out hi3 fr | (rw [hnl]; exact l_set Fl.out hi3 fr), FE.out.set (p := ⟨nl, i, none⟩) (Nat.le_of_eq hnl) _, fun k hk => HTk.out k hk (by first | rfl | trivial)⟩
              case measure => simp [intOf]; omega
            · have heb : (fe != 0) = true := by simp [he]
              have ev : Hid _ := hfit.out he
              obtain ⟨z0, z1, z2⟩ := Fz.out.k3
              obtain ⟨y0, y1, y2⟩ := Fz.out.z3
              clear hfit HTk
              go_wp2_with fail
              refine bodyPost_ret (v := .tuple #[.agg #[.int .i64 0, .int .i64 0, .int .i64 0], .int .i64 fe]) (by simp [results, Try.results9, go_sem, z0, z1, z2]) rfl ⟨by rw [ev.out], ?_⟩
              exact Ext.set (Ext.set (Ext.set FX.out lz.out _) lz.out _) lz.out _
      · have hi4 : i = 3 := by omega
        subst hi4
        have ev : Hid (vres (qf 0) (qf 1) (qf 2) = .tuple #[.agg #[.int .i64 (T 0), .int .i64 (T 1), .int .i64 (T 2)], .int .i64 0]) := by
          show _ = _
          obtain ⟨a0, b0⟩ := hT.out.2.2 0 (by omega)
          obtain ⟨a1, b1⟩ := hT.out.2.2 1 (by omega)
          obtain ⟨a2, b2⟩ := hT.out.2.2 2 (by omega)
          rw [b0, b1, b2, ← thr_fit]; unfold thr; rw [if_pos a0, if_pos a1, if_pos a2]
        obtain ⟨z0, z1, z2⟩ := Fz.out.k3
        obtain ⟨y0, y1, y2⟩ := Fz.out.z3
        obtain ⟨t0, t1, t2⟩ := hT.out.1.k3
        clear HF HT HZ HN HP IU Fu Fc
        go_wp2_with fail
        refine bodyPost_ret (v := .tuple #[.agg #[.int .i64 (T 0), .int .i64 (T 1), .int .i64 (T 2)], .int .i64 0]) (by simp [results, Try.results9, go_sem, z0, z1, z2]) rfl ⟨by rw [ev.out], ?_⟩
        exact Ext.set (Ext.set (Ext.set FX.out lz.out _) lz.out _) lz.out _
end Go.Proofs.Ytnilhamcojjloaa
