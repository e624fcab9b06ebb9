/- wide: Unit. vec: Norm. -/
import Derived.Test.YtojcndgoihkfnaaW7m
import Derived.Deep.DeepCutAuto
import Derived.Test.YtojcndgoihkfnaaMg8
import Derived.Test.YtojcndgoihkfnaaV6m
namespace Go.Proofs.Ytojcndgoihkfnaa
open Go.RowKit Go.Shelf

theorem hid_ext {w w' : World} {b : Nat} {u v x : Value} (h : Hid (H3 w b u v x)) (hx : Ext w w') : Hid (H3 w' b u v x) := h.out.ext hx
theorem ext_newA {X w' : World} {u v x : Value} {T : TypeId} (h : Ext (X.alloc (.cells #[u, v, x] T)) w') : Hid (H3 w' X.heap.size u v x) := (h3_at rfl).ext h
theorem ext_newD {X w' : World} {u v x : Value} {T : TypeId} (h : Ext (X.alloc (.cells #[u, v, x] T)).drew w') : Hid (H3 w' X.heap.size u v x) := (H3.drew (h3_at rfl)).ext h
theorem H3.set3u {w : World} {b : Nat} {u v x : Value} (h : H3 w b u v x) (u' v' x' : Value) : H3 (((w.setCell ⟨b, 0, none⟩ u').setCell ⟨b, 1, none⟩ v').setCell ⟨b, 2, none⟩ x') b u' v' x' := by
  obtain ⟨h0, h1, h2, f0, f1, f2, hb⟩ := h
  refine ⟨?_, ?_, ?_, ?_, ?_, ?_, ?_⟩ <;> simp [go_sem, h0, h1, h2, f0, f1, f2, hb]
/-- the variable part, behind its region -/
def Part (w wx : World) (g : Nat) (k : Int) : Prop := ∃ s0 s1 s2 : Int, H3 wx g (.int .u64 s0) (.int .u64 s1) (.int .u64 s2) ∧ IsW (.agg #[.int .u64 s0, .int .u64 s1, .int .u64 s2]) k ∧ Ext w wx ∧ w.heap.size ≤ g
theorem part_a {w wR : World} {s0 s1 s2 k : Int} {T : TypeId} (hR : Hid (s0 = l0 k ∧ s1 = l1 k ∧ s2 = l2 k)) (y : Ext w wR) : Hid (Part w (wR.alloc (.cells #[.int .u64 s0, .int .u64 s1, .int .u64 s2] T)) wR.heap.size k) :=
  ⟨s0, s1, s2, h3_at rfl, ⟨_, _, _, rfl, hR.out⟩, y.alloc _, y.size⟩
theorem part_b {w wR : World} {g : Nat} {u v x : Value} {s0 s1 s2 k : Int} (hN : Hid (H3 wR g u v x)) (hR : Hid (s0 = l0 k ∧ s1 = l1 k ∧ s2 = l2 k)) (y : Ext w wR) (hg : w.heap.size ≤ g) :
    Hid (Part w (((wR.setCell ⟨g, 0, none⟩ (.int .u64 s0)).setCell ⟨g, 1, none⟩ (.int .u64 s1)).setCell ⟨g, 2, none⟩ (.int .u64 s2)) g k) :=
  ⟨s0, s1, s2, hN.out.set3u _ _ _, ⟨_, _, _, rfl, hR.out⟩, ((y.set hg _).set hg _).set hg _, hg⟩

theorem rootw_det (p n k : Nat) (u v : Value) (w : World) (hk : RootQ p n k) (hu : IsW u p) (hv : IsW v n) (h0 : 0 < n) (hn : n < 4951760157141521099596496896) (hp : p / n < 4951760157141521099596496896) (hp2 : p < 98079714615416886934934209737619787751599303819750539264) :
    Calls Try.prog 56 #[u, v] w fun e w' => (∃ r, e = .returned r ∧ IsW r (k : Int)) ∧ Ext w w' := by
  refine (rootw_any p n u v w hu hv h0 hn hp hp2).mono ?_
  rintro e w1 ⟨⟨r, rfl, k', h1, h2, _⟩, x1⟩
  rw [rootQ_unique h0 h2 hk] at h1
  exact ⟨⟨r, rfl, h1⟩, x1⟩

def sgd (v : Int) (k : Nat) : Int := if v < 0 then -(k : Int) else (k : Int)
end Go.Proofs.Ytojcndgoihkfnaa

namespace Go.Proofs.Ytojcndgoihkfnaa
open Go.RowKit Go.Shelf

set_option maxHeartbeats 4000000 in
theorem norm_no (a0 a1 a2 : Int) (w : World)
    (HK : Hid (∀ (W : World) (n : Nat) (T : TypeId), W.heap.size = n → Calls Try.prog 27 #[.slice (some ⟨n, 0, none⟩) 1 1] (W.alloc (.cells #[.int .i64 a0, .int .i64 a1, .int .i64 a2] T)) fun e w' => e = .returned (.int .i64 1) ∧ Ext (W.alloc (.cells #[.int .i64 a0, .int .i64 a1, .int .i64 a2] T)) w')) :
    Calls Try.prog 30 #[.agg #[.int .i64 a0, .int .i64 a1, .int .i64 a2]] w fun e' w' => e' = .returned (.tuple #[.int .i64 0, .int .i64 1]) ∧ Ext w w' := by
  have HA : Hid (∀ w', Calls Try.prog 28 #[.agg #[.int .i64 a0, .int .i64 a1, .int .i64 a2]] w' fun e w'' => e = .returned (.agg #[.int .i64 a0, .int .i64 a1, .int .i64 a2]) ∧ Ext w' w'') := fun w' => of_any a0 a1 a2 w'
  go_enter Try.func30, Try.ntmps30
  go_wp2_with fail
  refine (HA.out _).mono ?_
  rintro e' w1 ⟨rfl, x1⟩
  go_wp2_with fail
  refine (HK.out _ _ _ rfl).mono ?_
  rintro e' w2 ⟨rfl, x20⟩
  have x2 := x1.trans (Ext.trans ((Ext.refl _).alloc _) x20)
  clear x20 x1
  have E8 : Ext w w2 := Ext.trans ((Ext.refl _).alloc _) x2
  clear x2
  go_wp2_with fail
  go_ret2
  exact ⟨rfl, E8⟩
set_option maxHeartbeats 4000000 in
theorem norm_yes (a0 a1 a2 r s : Int) (w : World)
    (HK : Hid (∀ (W : World) (n : Nat) (T : TypeId), W.heap.size = n → Calls Try.prog 27 #[.slice (some ⟨n, 0, none⟩) 1 1] (W.alloc (.cells #[.int .i64 a0, .int .i64 a1, .int .i64 a2] T)) fun e w' => e = .returned (.int .i64 0) ∧ Ext (W.alloc (.cells #[.int .i64 a0, .int .i64 a1, .int .i64 a2] T)) w'))
    (HL : Hid (∀ w', Calls Try.prog 40 #[.agg #[.int .i64 a0, .int .i64 a1, .int .i64 a2]] w' fun e w'' => e = .returned (.tuple #[.int .i64 r, .int .i64 s]) ∧ Ext w' w'')) :
    Calls Try.prog 30 #[.agg #[.int .i64 a0, .int .i64 a1, .int .i64 a2]] w fun e' w' => e' = .returned (.tuple #[.int .i64 r, .int .i64 s]) ∧ Ext w w' := by
  have HA : Hid (∀ w', Calls Try.prog 28 #[.agg #[.int .i64 a0, .int .i64 a1, .int .i64 a2]] w' fun e w'' => e = .returned (.agg #[.int .i64 a0, .int .i64 a1, .int .i64 a2]) ∧ Ext w' w'') := fun w' => of_any a0 a1 a2 w'
  go_enter Try.func30, Try.ntmps30
  go_wp2_with fail
  refine (HA.out _).mono ?_
  rintro e' w1 ⟨rfl, x1⟩
  go_wp2_with fail
  refine (HK.out _ _ _ rfl).mono ?_
  rintro e' w2 ⟨rfl, x20⟩
  have x2 := x1.trans (Ext.trans ((Ext.refl _).alloc _) x20)
  clear x20 x1
  have E8 : Ext w w2 := Ext.trans ((Ext.refl _).alloc _) x2
  obtain ⟨p0, p1, p2, p3, p4, p5, p6⟩ : H3 w2 w.heap.size (.int .i64 a0) (.int .i64 a1) (.int .i64 a2) := (h3_at rfl).ext x2
  clear x2
  go_wp2_with fail
  refine (HA.out _).mono ?_
  rintro e' w3 ⟨rfl, x3⟩
  go_wp2_with fail
  refine (HL.out _).mono ?_
  rintro e' w4 ⟨rfl, x4⟩
  go_wp2_with fail
  go_ret2
  exact ⟨rfl, (E8.trans x3).trans x4⟩
theorem rootQ_exists (p n : Nat) (h0 : 0 < n) : ∃ k, RootQ p n k := by
  obtain ⟨k, k1, k2⟩ := exists_sqrt (p / n)
  have hm : k * k * n ≤ p := by rw [← Nat.le_div_iff_mul_le h0]; exact k1
  have hM : p < (k + 1) * (k + 1) * n := by rw [← Nat.div_lt_iff_lt_mul h0]; exact k2
  by_cases h : (2 * k + 1) * (2 * k + 1) * n < 4 * p ∨ (2 * k + 1) * (2 * k + 1) * n = 4 * p ∧ k % 2 = 1
  · exact ⟨k + 1, rootQ_up hM h⟩
  · exact ⟨k, rootQ_down h0 hm (by omega)⟩
theorem rootQ_le {p n k B : Nat} (h : RootQ p n k) (hn : 0 < n) (hp : p ≤ B * B * n) : k ≤ B := by
  obtain ⟨_, h2, _, h4⟩ := h
  apply Decidable.byContradiction
  intro hh
  have h5 : (2 * B + 1) * (2 * B + 1) * n ≤ (2 * k - 1) * (2 * k - 1) * n := Nat.mul_le_mul_right n (Nat.mul_le_mul (by omega) (by omega))
  have h6 : (2 * B + 1) * (2 * B + 1) * n = 4 * (B * B * n) + 4 * (B * n) + n := by
    have : (2 * B + 1) * (2 * B + 1) = 4 * (B * B) + 4 * B + 1 := by
      simp only [Nat.mul_add, Nat.add_mul, Nat.mul_one, Nat.one_mul]
      have : 2 * B * (2 * B) = 4 * (B * B) := by rw [Nat.mul_mul_mul_comm]
      omega
    rw [this, Nat.add_mul, Nat.add_mul, Nat.mul_assoc 4, Nat.mul_assoc 4, Nat.one_mul]
  omega
/-- the sum of the squares -/
def sq3 (a0 a1 a2 : Int) : Nat := a0.natAbs * a0.natAbs + a1.natAbs * a1.natAbs + a2.natAbs * a2.natAbs
theorem sq3_dot (a0 a1 a2 : Int) : dot3 a0 a1 a2 a0 a1 a2 = (sq3 a0 a1 a2 : Int) := by
  unfold dot3 sq3
  rw [Int.natCast_add, Int.natCast_add, Int.natAbs_mul_self, Int.natAbs_mul_self, Int.natAbs_mul_self]
theorem sq3_lt {a0 a1 a2 : Int} (h : ok3 a0 a1 a2 = true) : sq3 a0 a1 a2 < 3713820117856140824697372672 := by
  obtain ⟨g0, g1, g2⟩ := ok3_parts h
  have b0 := okW_bounds g0
  have b1 := okW_bounds g1
  have b2 := okW_bounds g2
  have m0 : a0.natAbs * a0.natAbs ≤ 35184372088831 * 35184372088831 := Nat.mul_le_mul (by omega) (by omega)
  have m1 : a1.natAbs * a1.natAbs ≤ 35184372088831 * 35184372088831 := Nat.mul_le_mul (by omega) (by omega)
  have m2 : a2.natAbs * a2.natAbs ≤ 35184372088831 * 35184372088831 := Nat.mul_le_mul (by omega) (by omega)
  unfold sq3
  omega
set_option maxHeartbeats 4000000 in
theorem length_any (a0 a1 a2 : Int) (k : Nat) (w : World) (h : ok3 a0 a1 a2 = true) (hk : RootQ (sq3 a0 a1 a2) 1 k) :
    Calls Try.prog 40 #[.agg #[.int .i64 a0, .int .i64 a1, .int .i64 a2]] w fun e w' => e = .returned (.tuple #[.int .i64 (fitR k).1, .int .i64 (fitR k).2]) ∧ Ext w w' := by
  obtain ⟨g0, g1, g2⟩ := ok3_parts h
  have hl := sq3_lt h
  have kb : k ≤ 70368744177664 := rootQ_le hk (by omega) (by omega)
  have HS : Hid (∀ w', Calls Try.prog 57 #[.agg #[.int .i64 a0, .int .i64 a1, .int .i64 a2], .agg #[.int .i64 a0, .int .i64 a1, .int .i64 a2]] w' fun e w'' => (∃ r, e = .returned r ∧ IsW r (sq3 a0 a1 a2 : Nat)) ∧ Ext w' w'') := fun w' => by
    rw [← sq3_dot]
    exact sum_any a0 a1 a2 a0 a1 a2 w' g0 g1 g2 g0 g1 g2
  have HO : Hid (∀ w', Calls Try.prog 58 #[.int .i64 1] w' fun e w'' => (∃ r, e = .returned r ∧ IsW r ((1 : Nat) : Int)) ∧ Ext w' w'') := fun w' => ofw_any 1 w' (by omega) (by omega)
  have HR : Hid (∀ u v w', IsW u (sq3 a0 a1 a2 : Nat) → IsW v ((1 : Nat) : Int) → Calls Try.prog 56 #[u, v] w' fun e w'' => (∃ r, e = .returned r ∧ IsW r (k : Int)) ∧ Ext w' w'') := fun u v w' hu hv => rootw_det _ 1 k u v w' hk hu hv (by omega) (by omega) (by rw [Nat.div_one]; omega) (by omega)
  have HW : Hid (∀ u w', IsW u (k : Int) → Calls Try.prog 59 #[u] w' fun e w'' => e = .returned (.tuple #[.int .i64 (fitR k).1, .int .i64 (fitR k).2]) ∧ Ext w' w'') := fun u w' hu => wordw_any _ u w' hu (by unfold InW; omega)
  clear g0 g1 g2 hl kb hk h
  generalize sq3 a0 a1 a2 = D at *
  generalize (fitR (k : Int)).1 = o1 at *
  generalize (fitR (k : Int)).2 = o2 at *
  go_enter Try.func40, Try.ntmps40
  go_wp2_with fail
  refine (HS.out _).mono ?_
  rintro e w1 ⟨⟨u1, rfl, hu1⟩, x1⟩
  go_wp2_with fail
  refine (HO.out _).mono ?_
  rintro e w2 ⟨⟨u2, rfl, hu2⟩, x2⟩
  go_wp2_with fail
  refine (HR.out _ _ _ hu1 hu2).mono ?_
  rintro e w3 ⟨⟨u3, rfl, hu3⟩, x3⟩
  go_wp2_with fail
  refine (HW.out _ _ hu3).mono ?_
  rintro e w4 ⟨rfl, x4⟩
  go_wp2_with fail
  go_ret2
  exact ⟨rfl, (((Ext.trans ((Ext.refl _).alloc _) x1).trans x2).trans x3).trans x4⟩
theorem vNorm_yes (a0 a1 a2 : Int) (k : Nat) (w : World) (h : ok3 a0 a1 a2 = true) (hk : RootQ (sq3 a0 a1 a2) 1 k) :
    Calls Try.prog 30 #[.agg #[.int .i64 a0, .int .i64 a1, .int .i64 a2]] w fun e w' => e = .returned (.tuple #[.int .i64 (fitR k).1, .int .i64 (fitR k).2]) ∧ Ext w w' :=
  norm_yes a0 a1 a2 _ _ w (fun W n T hn => check1_yes a0 a1 a2 W n T hn h) (fun w' => length_any a0 a1 a2 k w' h hk)
theorem vNorm_no (a0 a1 a2 : Int) (w : World) (h : ok3 a0 a1 a2 = false) :
    Calls Try.prog 30 #[.agg #[.int .i64 a0, .int .i64 a1, .int .i64 a2]] w fun e w' => e = .returned (.tuple #[.int .i64 0, .int .i64 1]) ∧ Ext w w' :=
  norm_no a0 a1 a2 w (fun W n T hn => check1_no a0 a1 a2 W n T hn h)
end Go.Proofs.Ytojcndgoihkfnaa
