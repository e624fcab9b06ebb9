/- The reference's rational numbers: Near. -/
import Derived.Test.YtbmocnigmpmfkaaRat1m
import Derived.Test.YtbmocnigmpmfkaaNearNumm
import Derived.Deep.DeepCutAuto
namespace Go.Proofs.Ytbmocnigmpmfkaa
open Go.RowKit

structure LaidQ (p : Nat) (W : World) (u1 v1 x1 : Value) : Prop where
  a : Has3 W p u1 v1 x1
  b : Has W (p + 1) (.bool false) (.slice none 0 0)
theorem LaidQ.ext {p : Nat} {W W' : World} {u1 v1 x1 : Value} (h : LaidQ p W u1 v1 x1) (hx : Ext W W') : LaidQ p W' u1 v1 x1 := ⟨h.a.ext hx, h.b.ext hx⟩
theorem laidQ_start (w : World) (u1 v1 x1 : Value) : LaidQ w.heap.size ((w.alloc (.cells #[u1, v1, x1] 74)).alloc (.cells #[.bool false, .slice none 0 0] 63)) u1 v1 x1 := by
  constructor <;> constructor <;> simp [go_sem]

theorem ext_new1 {X w' : World} {u v : Value} {T : TypeId} (h : Ext (X.alloc (.cells #[u, v] T)) w') : Has w' X.heap.size u v := by
  have h0 : Has (X.alloc (.cells #[u, v] T)) X.heap.size u v := by constructor <;> simp [go_sem]
  exact h0.ext h
theorem ext_new2 {X w' : World} {u v : Value} {T : TypeId} {o : Obj} (h : Ext ((X.alloc (.cells #[u, v] T)).alloc o) w') : Has w' X.heap.size u v := ext_new1 (((Ext.refl _).alloc o).trans h)
theorem size_drewN (w : World) : w.drew.heap.size = w.heap.size := rfl
theorem natAbs_ediv_le (x d : Int) (hd : 0 < d) : (x / d).natAbs ≤ x.natAbs := by
  by_cases hx : 0 ≤ x
  · have h1 := Int.ediv_nonneg hx (Int.le_of_lt hd)
    have h2 := Int.ediv_le_self d hx
    omega
  · have h1 : x / d < 0 := Int.ediv_neg_of_neg_of_pos (by omega) hd
    have h2 : x ≤ x / d := by
      apply Int.le_ediv_of_mul_le hd
      have : x * d ≤ x * 1 := Int.mul_le_mul_of_nonpos_left (by omega) (by omega)
      omega
    omega
set_option maxHeartbeats 400000 in
theorem zero_isI (z : Int) (r : Value) (w : World) (h : IsI w r z) (hs : SmallI z) :
    Calls Try.prog 64 #[r] w fun e w' => e = .returned (.bool (decide (z = 0))) ∧ Ext w w' := by
  obtain ⟨u, rfl, hu⟩ := h
  obtain ⟨a, l, cap, rfl, hz, hl⟩ := hu.zero_iff
  have hl' : l ≤ 1000 := by have := hs.1; omega
  have hd : Hid (((l : Int) == 0) = decide (z = 0)) := by
    show _ = _
    rw [Bool.eq_iff_iff, beq_iff_eq, decide_eq_true_iff]
    omega
  clear hz hl hu hs
  generalize decide (z < 0) = b at *
  generalize decide (z = 0) = Z0 at *
  go_enter Try.func64, Try.ntmps64
  go_wp2_with fail
  go_ret
  exact ⟨ret_bool (by first | exact hd.out | (rw [← hd.out]; rfl) | (rw [← hd.out]; simp)), (Ext.refl _).alloc _⟩
theorem nes {p : Nat} {W X : World} {u v x : Value} (h : LaidQ p W u v x) (hx : Ext W X) : p ≠ X.heap.size ∧ X.heap.size ≠ p ∧ p ≠ X.heap.size + 1 ∧ X.heap.size + 1 ≠ p := by
  have h1 := h.b.lt
  have h2 := hx.size
  exact ⟨by omega, by omega, by omega, by omega⟩
theorem IsN.setH {w : World} {v : Value} {n g : Nat} {b0 : Bool} {a : Option Addr} {l c : Nat} {x y : Value} (h : IsN w v n) (k : Has w g (.bool b0) (.slice a l c)) : IsN ((w.setCell ⟨g, 0, none⟩ x).setCell ⟨g, 1, none⟩ y) v n := by
  refine Row.set (c := .slice a l c) (Row.set h x k.c0 (by simp)) y ?_ (by simp)
  rw [World.cell?_setCell_other _ _ _ _ (by simp)]
  exact k.c1
/-- two values in two variables of their own -/
structure Both (W wx : World) (gq gr : Nat) (uq vq ur vr : Value) (nq nr : Nat) : Prop where
  q : Has wx gq uq vq
  r : Has wx gr ur vr
  iq : IsN wx vq nq
  ir : IsN wx vr nr
  x : Ext W wx
theorem both_a {W X : World} {bq br : Bool} {aq ar : Option Addr} {lq cq lr cr nq nr : Nat} {T : TypeId} (hx : Ext W X) (iq : IsN X (.slice aq lq cq) nq) (ir : IsN X (.slice ar lr cr) nr) :
    Hid (Both W ((X.alloc (.cells #[.bool bq, .slice aq lq cq] T)).alloc (.cells #[.bool br, .slice ar lr cr] T)) X.heap.size (X.heap.size + 1) (.bool bq) (.slice aq lq cq) (.bool br) (.slice ar lr cr) nq nr) :=
  ⟨ext_new2 (Ext.refl _), by have h := ext_new1 (Ext.refl ((X.alloc (.cells #[.bool bq, .slice aq lq cq] T)).alloc (.cells #[.bool br, .slice ar lr cr] T))); simpa only [World.size_alloc] using h, iq.ext (((Ext.refl _).alloc _).alloc _), ir.ext (((Ext.refl _).alloc _).alloc _), (hx.alloc _).alloc _⟩
theorem both_swap {W wx : World} {gq gr : Nat} {uq vq ur vr : Value} {nq nr : Nat} (h : Hid (Both W wx gq gr uq vq ur vr nq nr)) : Hid (Both W wx gr gq ur vr uq vq nr nq) := ⟨h.out.r, h.out.q, h.out.ir, h.out.iq, h.out.x⟩
theorem both_b {W X : World} {gq gr : Nat} {bq br : Bool} {aq ar : Option Addr} {lq cq lr cr nq nr : Nat} (hx : Ext W X) (iq : IsN X (.slice aq lq cq) nq) (ir : IsN X (.slice ar lr cr) nr)
    (hq : Has X gq (.bool false) (.slice none 0 0)) (hr : Has X gr (.bool false) (.slice none 0 0)) (hne : gq ≠ gr) (hl : W.heap.size ≤ gq) (hl' : W.heap.size ≤ gr) :
    Hid (Both W ((((X.setCell ⟨gq, 0, none⟩ (.bool bq)).setCell ⟨gq, 1, none⟩ (.slice aq lq cq)).setCell ⟨gr, 0, none⟩ (.bool br)).setCell ⟨gr, 1, none⟩ (.slice ar lr cr)) gq gr (.bool bq) (.slice aq lq cq) (.bool br) (.slice ar lr cr) nq nr) :=
  ⟨(Has.here hq).far hne, Has.here (hr.far hne.symm), (iq.setH hq).setH (hr.far hne.symm), (ir.setH hq).setH (hr.far hne.symm), (((hx.setCell hl _).setCell hl _).setCell hl' _).setCell hl' _⟩
theorem both_d {W X : World} {gr : Nat} {bq br : Bool} {aq ar : Option Addr} {lq cq lr cr nq nr : Nat} {T : TypeId} (hx : Ext W X) (iq : IsN X (.slice aq lq cq) nq) (ir : IsN X (.slice ar lr cr) nr)
    (hr : Has X gr (.bool false) (.slice none 0 0)) (hl' : W.heap.size ≤ gr) :
    Hid (Both W (((X.alloc (.cells #[.bool bq, .slice aq lq cq] T)).setCell ⟨gr, 0, none⟩ (.bool br)).setCell ⟨gr, 1, none⟩ (.slice ar lr cr)) X.heap.size gr (.bool bq) (.slice aq lq cq) (.bool br) (.slice ar lr cr) nq nr) := by
  have hr' := hr.ext ((Ext.refl X).alloc (.cells #[.bool bq, .slice aq lq cq] T))
  have hne : X.heap.size ≠ gr := by have := hr.lt; omega
  exact ⟨(ext_new1 (Ext.refl _)).far hne, Has.here hr', (iq.ext ((Ext.refl _).alloc _)).setH hr', (ir.ext ((Ext.refl _).alloc _)).setH hr', ((hx.alloc _).setCell hl' _).setCell hl' _⟩
/-- a value in a variable of its own -/
structure OneV (W wx : World) (g : Nat) (u v : Value) (n : Nat) : Prop where
  h : Has wx g u v
  i : IsN wx v n
  x : Ext W wx
theorem one_a {W X : World} {b : Bool} {a : Option Addr} {l c n : Nat} {T : TypeId} (hx : Ext W X) (i : IsN X (.slice a l c) n) : Hid (OneV W (X.alloc (.cells #[.bool b, .slice a l c] T)) X.heap.size (.bool b) (.slice a l c) n) :=
  ⟨ext_new1 (Ext.refl _), i.ext ((Ext.refl _).alloc _), hx.alloc _⟩
theorem one_b {W X : World} {g : Nat} {b : Bool} {a : Option Addr} {l c n : Nat} (hx : Ext W X) (i : IsN X (.slice a l c) n) (h : Has X g (.bool false) (.slice none 0 0)) (hl : W.heap.size ≤ g) :
    Hid (OneV W ((X.setCell ⟨g, 0, none⟩ (.bool b)).setCell ⟨g, 1, none⟩ (.slice a l c)) g (.bool b) (.slice a l c) n) :=
  ⟨Has.here h, i.setH h, (hx.setCell hl _).setCell hl _⟩
/-- what is known of a block, for the walk: also behind an alloc -/
structure Kn (w : World) (b : Nat) (u v : Value) : Prop where
  c0 : w.cell? ⟨b, 0, none⟩ = some u
  c1 : w.cell? ⟨b, 1, none⟩ = some v
  f0 : w.frozen? ⟨b, 0, none⟩ = false
  f1 : w.frozen? ⟨b, 1, none⟩ = false
  d0 : ∀ o, (w.alloc o).cell? ⟨b, 0, none⟩ = some u
  d1 : ∀ o, (w.alloc o).cell? ⟨b, 1, none⟩ = some v
  e0 : ∀ o, (w.alloc o).frozen? ⟨b, 0, none⟩ = false
  e1 : ∀ o, (w.alloc o).frozen? ⟨b, 1, none⟩ = false
  n0 : b ≠ w.heap.size
  n1 : w.heap.size ≠ b
theorem Has.kn {w : World} {b : Nat} {u v : Value} (h : Has w b u v) : Kn w b u v :=
  ⟨h.c0, h.c1, h.f0, h.f1, fun o => (h.ext ((Ext.refl w).alloc o)).c0, fun o => (h.ext ((Ext.refl w).alloc o)).c1, fun o => (h.ext ((Ext.refl w).alloc o)).f0, fun o => (h.ext ((Ext.refl w).alloc o)).f1, Nat.ne_of_lt h.lt, Nat.ne_of_gt h.lt⟩

set_option maxHeartbeats 12000000 in
theorem near_isI (n : Int) (d k : Nat) (v : Value) (w : World) (h1 : IsQ w v n d) (hd : d ≠ 0) (hk : k ≤ 3000) (f1 : Fit k n) (f2 : Fit k (d : Int)) :
    Calls Try.prog 46 #[v] w fun e w' => (∃ r, e = .returned r ∧ IsI w' r (nearI n d)) ∧ Ext w w' := by
  obtain ⟨u1, u2, rfl, k1, k2⟩ := h1
  have fd : d < 2 ^ k := by have := f2; unfold Fit at this; rwa [Int.natAbs_natCast] at this
  have e2 : n * 2 ^ 1 = n * 2 := by rw [Int.pow_succ, Int.pow_zero, Int.one_mul]
  have f3 : Fit (k + 1) (n * 2) := by rw [← e2]; exact f1.shl 1
  have HL1 : Hid (∀ w', Ext w w' → Calls Try.prog 61 #[.agg #[.bool (decide (n < 0)), u1], .int .i64 1] w' fun e w'' => (∃ r', e = .returned r' ∧ IsI w'' r' (n * 2)) ∧ Ext w' w'') := fun w' hx => by
    have h := left_isI n 1 (.agg #[.bool (decide (n < 0)), u1]) w' ⟨u1, rfl, k1.ext hx⟩ (f1.small (by omega)) (by omega) (by rw [e2]; exact f3.small (by omega))
    rw [e2] at h
    exact h
  have HM : Hid (∀ w', Ext w w' → Calls Try.prog 49 #[.bool false, u2] w' fun e w'' => e = .returned (.agg #[.bool false, u2]) ∧ Ext w' w'') := fun w' hx => made_any false u2 d w' (k2.ext hx) (small_pow d k fd (by omega))
  have HI2 : Hid (∀ w', Ext w w' → IsI w' (.agg #[.bool false, u2]) (d : Int)) := fun w' hx => ⟨u2, by rw [decide_eq_false (by omega)], by rw [Int.natAbs_natCast]; exact k2.ext hx⟩
  have HD : Hid (∀ r1 r2 w', IsI w' r1 (n * 2) → IsI w' r2 (d : Int) → Calls Try.prog 60 #[r1, r2] w' fun e w'' => (∃ q r, e = .returned (.tuple #[q, r]) ∧ IsI w'' q (n * 2 / d) ∧ IsI w'' r (n * 2 % d)) ∧ Ext w' w'') := fun r1 r2 w' hr1 hr2 => divide_isI (n * 2) d (k + 1) r1 r2 w' hr1 hr2 (by omega) f3 (f2.le (by omega)) (by omega)
  have e21 : ∀ z : Int, z / 2 ^ 1 = z / 2 := fun z => by rw [Int.pow_succ, Int.pow_zero, Int.one_mul]
  have e22 : ∀ z : Int, z * 2 ^ 1 = z * 2 := fun z => by rw [Int.pow_succ, Int.pow_zero, Int.one_mul]
  have f4 : Fit (k + 1) (n * 2 / (d : Int)) := f3.of_le (natAbs_ediv_le _ _ (by omega))
  have f4r : Fit (k + 1) (n * 2 % (d : Int)) := by
    refine (f2.le (by omega)).of_le ?_
    have h1 := Int.emod_nonneg (n * 2) (show (d : Int) ≠ 0 by omega)
    have h2 := Int.emod_lt_of_pos (n * 2) (show 0 < (d : Int) by omega)
    omega
  have C1 : Hid (2 * (n * 2 / (d : Int) / 2) = n * 2 / (d : Int) → n * 2 / (d : Int) / 2 = nearI n d) := fun h => by unfold nearI; rw [if_pos h]
  have C2 : Hid (2 * (n * 2 / (d : Int) / 2) ≠ n * 2 / (d : Int) → (n * 2 % (d : Int) ≠ 0 ∨ 2 * (n * 2 / (d : Int) / 2 / 2) ≠ n * 2 / (d : Int) / 2) → n * 2 / (d : Int) / 2 + 1 = nearI n d) := fun h h' => by
    unfold nearI
    rw [if_neg h, if_neg (fun hh => by rcases h' with h' | h'; exact h' hh.1; exact h' hh.2)]
  have C3 : Hid (2 * (n * 2 / (d : Int) / 2) ≠ n * 2 / (d : Int) → n * 2 % (d : Int) = 0 → 2 * (n * 2 / (d : Int) / 2 / 2) = n * 2 / (d : Int) / 2 → n * 2 / (d : Int) / 2 = nearI n d) := fun h h' h'' => by
    unfold nearI
    rw [if_neg h, if_pos ⟨h', h''⟩]
  have e23 : (2 : Int) = 2 := rfl
  obtain ⟨Q, hQ⟩ : ∃ Q, n * 2 / (d : Int) = Q := ⟨_, rfl⟩
  obtain ⟨R, hR⟩ : ∃ R, n * 2 % (d : Int) = R := ⟨_, rfl⟩
  obtain ⟨Z, hZ⟩ : ∃ Z, nearI n d = Z := ⟨_, rfl⟩
  rw [hQ] at f4 C1 C2 C3 HD
  rw [hR] at f4r C2 C3 HD
  rw [hZ] at C1 C2 C3 ⊢
  clear hQ hR hZ
  have f5 : Fit (k + 1) (Q / 2) := f4.of_le (natAbs_ediv_le _ _ (by omega))
  have f6 : Fit (k + 1) (Q / 2 / 2) := f5.of_le (natAbs_ediv_le _ _ (by omega))
  have f5l : Fit (k + 2) (Q / 2 * 2) := by rw [← e22]; exact f5.shl 1
  have f6l : Fit (k + 2) (Q / 2 / 2 * 2) := by rw [← e22]; exact f6.shl 1
  have HR1 : Hid (∀ r w', IsI w' r Q → Calls Try.prog 62 #[r, .int .i64 1] w' fun e w'' => (∃ r', e = .returned r' ∧ IsI w'' r' (Q / 2)) ∧ Ext w' w'') := fun r w' hr => by
    have h := right_isI Q 1 (k + 1) r w' hr (by omega) (by omega) f4
    rw [e21] at h
    exact h
  have HL2 : Hid (∀ r w', IsI w' r (Q / 2) → Calls Try.prog 61 #[r, .int .i64 1] w' fun e w'' => (∃ r', e = .returned r' ∧ IsI w'' r' (Q / 2 * 2)) ∧ Ext w' w'') := fun r w' hr => by
    have h := left_isI (Q / 2) 1 r w' hr (f5.small (by omega)) (by omega) (by rw [e22]; exact f5l.small (by omega))
    rw [e22] at h
    exact h
  have HC1 : Hid (∀ r r' w', IsI w' r (Q / 2 * 2) → IsI w' r' Q → Calls Try.prog 63 #[r, r'] w' fun e w'' => e = .returned (.int .i64 (sgn (Q / 2 * 2 - Q))) ∧ Ext w' w'') := fun r r' w' hr hr' => cmp_isI _ _ r r' w' hr hr' (f5l.small (by omega)) (f4.small (by omega)) ((f5l.sub (f4.le (by omega))).small (by omega))
  have HO : Hid (∀ w', Calls Try.prog 55 #[.int .i64 1] w' fun e w'' => (∃ r, e = .returned r ∧ IsI w'' r 1) ∧ Ext w' w'') := fun w' => from_any 1 w' (by omega) (by omega)
  have HP : Hid (∀ r o w', IsI w' r (Q / 2) → IsI w' o 1 → Calls Try.prog 38 #[r, o] w' fun e w'' => (∃ r', e = .returned r' ∧ IsI w'' r' (Q / 2 + 1)) ∧ Ext w' w'') := fun r o w' hr ho => plus_isI (Q / 2) 1 r o w' hr ho (f5.small (by omega)) ((fit_one 1 (by omega) : Fit 1 1).small (by omega)) ((f5.add (fit_one _ (by omega))).small (by omega))
  have HZ : Hid (∀ r w', IsI w' r R → Calls Try.prog 64 #[r] w' fun e w'' => e = .returned (.bool (decide (R = 0))) ∧ Ext w' w'') := fun r w' hr => zero_isI R r w' hr (f4r.small (by omega))
  have HR2 : Hid (∀ r w', IsI w' r (Q / 2) → Calls Try.prog 62 #[r, .int .i64 1] w' fun e w'' => (∃ r', e = .returned r' ∧ IsI w'' r' (Q / 2 / 2)) ∧ Ext w' w'') := fun r w' hr => by
    have h := right_isI (Q / 2) 1 (k + 1) r w' hr (by omega) (by omega) f5
    rw [e21] at h
    exact h
  have HL3 : Hid (∀ r w', IsI w' r (Q / 2 / 2) → Calls Try.prog 61 #[r, .int .i64 1] w' fun e w'' => (∃ r', e = .returned r' ∧ IsI w'' r' (Q / 2 / 2 * 2)) ∧ Ext w' w'') := fun r w' hr => by
    have h := left_isI (Q / 2 / 2) 1 r w' hr (f6.small (by omega)) (by omega) (by rw [e22]; exact f6l.small (by omega))
    rw [e22] at h
    exact h
  have HC2 : Hid (∀ r r' w', IsI w' r (Q / 2 / 2 * 2) → IsI w' r' (Q / 2) → Calls Try.prog 63 #[r, r'] w' fun e w'' => e = .returned (.int .i64 (sgn (Q / 2 / 2 * 2 - Q / 2))) ∧ Ext w' w'') := fun r r' w' hr hr' => cmp_isI _ _ r r' w' hr hr' (f6l.small (by omega)) (f5.small (by omega)) ((f6l.sub (f5.le (by omega))).small (by omega))
  clear e21 e22 e23 f4 f4r f5 f6 f5l f6l
  obtain ⟨a1, l1, c1, rfl⟩ := k1.isSlice
  obtain ⟨a2, l2, c2, rfl⟩ := k2.isSlice
  clear k1 k2
  generalize decide (n < 0) = b at *
  have XS : Hid (Ext w ((w.alloc (.cells #[.bool b, .slice a1 l1 c1, .slice a2 l2 c2] 74)).alloc (.cells #[.bool false, .slice none 0 0] 63))) := ((Ext.refl w).alloc _).alloc _
  have LS : Hid (LaidQ w.heap.size ((w.alloc (.cells #[.bool b, .slice a1 l1 c1, .slice a2 l2 c2] 74)).alloc (.cells #[.bool false, .slice none 0 0] 63)) (.bool b) (.slice a1 l1 c1) (.slice a2 l2 c2)) := laidQ_start w _ _ _
  go_enter Try.func46, Try.ntmps46
  go_upto_region 1 with fail
  generalize ((w.alloc (.cells #[.bool b, .slice a1 l1 c1, .slice a2 l2 c2] 74)).alloc (.cells #[.bool false, .slice none 0 0] 63)) = W at *
  obtain ⟨⟨p0, p1, p2, p3, p4, p5⟩, _⟩ := LS.out
  obtain ⟨nes0a, nes0b, nes0c, nes0d⟩ := nes LS.out (Ext.refl W)
  go_cut [3, 4] (fun s3 s4 wx => ∃ gq gr aq lq cq ar lr cr, s3 = .pointer (some ⟨gq, 0, none⟩) ∧ s4 = .pointer (some ⟨gr, 0, none⟩) ∧ Hid (Both W wx gq gr (.bool (decide (Q < 0))) (.slice aq lq cq) (.bool (decide (R < 0))) (.slice ar lr cr) Q.natAbs R.natAbs))
  case first =>
    go_region_held (fun w' => w'.cell? ⟨w.heap.size, 0, none⟩ = some (.bool b) ∧ w'.cell? ⟨w.heap.size, 1, none⟩ = some (.slice a1 l1 c1) ∧ w'.cell? ⟨w.heap.size, 2, none⟩ = some (.slice a2 l2 c2)) (first | (go_keep; done) | skip) (first | (go_at_call 61; refine (HL1.out _ (by first | exact XS.out | exact (XS.out).drew | exact (XS.out).alloc _ | exact (XS.out).drew.alloc _ | exact ((XS.out).alloc _).alloc _ | exact ((XS.out).drew.alloc _).alloc _)).mono ?_; rintro e w1 ⟨⟨r1, rfl, hr1⟩, x1⟩; have X1 : Hid (Ext W w1) := (by first | exact x1 | exact cell_drew x1 | exact ((Ext.refl W).alloc _).trans x1 | exact ((Ext.refl W).drew.alloc _).trans x1 | exact (((Ext.refl W).alloc _).alloc _).trans x1 | exact (((Ext.refl W).drew.alloc _).alloc _).trans x1); obtain ⟨⟨s0, s1, s2, s3, s4, s5⟩, _⟩ := LS.out.ext X1.out; obtain ⟨nes1a, nes1b, nes1c, nes1d⟩ := nes LS.out X1.out; (try (first | have N1 : Hid _ := ext_new1 x1 | have N1 : Hid _ := ext_new1 (cell_drew x1)); (try simp only [World.size_alloc] at N1); obtain ⟨N1a, N1b, N1c, N1d, N1e, N1f, N1g, N1h, N1i, N1j⟩ := N1.out.kn); (try (first | have M1 : Hid _ := ext_new2 x1 | have M1 : Hid _ := ext_new2 (cell_drew x1)); (try simp only [World.size_alloc] at M1); obtain ⟨M1a, M1b, M1c, M1d, M1e, M1f, M1g, M1h, M1i, M1j⟩ := M1.out.kn)) | (go_at_call 49; refine (HM.out _ (by first | exact (XS.out.trans X1.out) | exact ((XS.out.trans X1.out)).drew | exact ((XS.out.trans X1.out)).alloc _ | exact ((XS.out.trans X1.out)).drew.alloc _ | exact (((XS.out.trans X1.out)).alloc _).alloc _ | exact (((XS.out.trans X1.out)).drew.alloc _).alloc _)).mono ?_; rintro e w2 ⟨rfl, x2⟩; have X12 : Hid (Ext w1 w2) := (by first | exact x2 | exact cell_drew x2 | exact ((Ext.refl w1).alloc _).trans x2 | exact ((Ext.refl w1).drew.alloc _).trans x2 | exact (((Ext.refl w1).alloc _).alloc _).trans x2 | exact (((Ext.refl w1).drew.alloc _).alloc _).trans x2); have X2 : Hid (Ext W w2) := X1.out.trans X12.out; obtain ⟨⟨t0, t1, t2, t3, t4, t5⟩, _⟩ := LS.out.ext X2.out; obtain ⟨nes2a, nes2b, nes2c, nes2d⟩ := nes LS.out X2.out; (try (first | have N2 : Hid _ := ext_new1 x2 | have N2 : Hid _ := ext_new1 (cell_drew x2)); (try simp only [World.size_alloc] at N2); obtain ⟨N2a, N2b, N2c, N2d, N2e, N2f, N2g, N2h, N2i, N2j⟩ := N2.out.kn); (try (first | have M2 : Hid _ := ext_new2 x2 | have M2 : Hid _ := ext_new2 (cell_drew x2)); (try simp only [World.size_alloc] at M2); obtain ⟨M2a, M2b, M2c, M2d, M2e, M2f, M2g, M2h, M2i, M2j⟩ := M2.out.kn); (try (have N1_2 : Hid _ := Has.ext N1.out X12.out; obtain ⟨N1_2a, N1_2b, N1_2c, N1_2d, N1_2e, N1_2f, N1_2g, N1_2h, N1_2i, N1_2j⟩ := N1_2.out.kn)); (try (have M1_2 : Hid _ := Has.ext M1.out X12.out; obtain ⟨M1_2a, M1_2b, M1_2c, M1_2d, M1_2e, M1_2f, M1_2g, M1_2h, M1_2i, M1_2j⟩ := M1_2.out.kn))) | (go_at_call 60; refine (HD.out _ _ _ (hr1.ext (by first | exact X12.out | exact (X12.out).drew | exact (X12.out).alloc _ | exact (X12.out).drew.alloc _ | exact ((X12.out).alloc _).alloc _ | exact ((X12.out).drew.alloc _).alloc _)) (HI2.out _ (by first | exact (XS.out.trans X2.out) | exact ((XS.out.trans X2.out)).drew | exact ((XS.out.trans X2.out)).alloc _ | exact ((XS.out.trans X2.out)).drew.alloc _ | exact (((XS.out.trans X2.out)).alloc _).alloc _ | exact (((XS.out.trans X2.out)).drew.alloc _).alloc _))).mono ?_; rintro e w3 ⟨⟨q, r, rfl, hq, hr⟩, x3⟩; have X23 : Hid (Ext w2 w3) := (by first | exact x3 | exact cell_drew x3 | exact ((Ext.refl w2).alloc _).trans x3 | exact ((Ext.refl w2).drew.alloc _).trans x3 | exact (((Ext.refl w2).alloc _).alloc _).trans x3 | exact (((Ext.refl w2).drew.alloc _).alloc _).trans x3); have X3 : Hid (Ext W w3) := X2.out.trans X23.out; obtain ⟨⟨v0, v1, v2, v3, v4, v5⟩, ⟨y0, y1, y2, y3⟩⟩ := LS.out.ext X3.out; obtain ⟨nes3a, nes3b, nes3c, nes3d⟩ := nes LS.out X3.out; (try (first | have N3 : Hid _ := ext_new1 x3 | have N3 : Hid _ := ext_new1 (cell_drew x3)); (try simp only [World.size_alloc] at N3); obtain ⟨N3a, N3b, N3c, N3d, N3e, N3f, N3g, N3h, N3i, N3j⟩ := N3.out.kn); (try (first | have M3 : Hid _ := ext_new2 x3 | have M3 : Hid _ := ext_new2 (cell_drew x3)); (try simp only [World.size_alloc] at M3); obtain ⟨M3a, M3b, M3c, M3d, M3e, M3f, M3g, M3h, M3i, M3j⟩ := M3.out.kn); (try (have N1_2_3 : Hid _ := Has.ext N1_2.out X23.out; obtain ⟨N1_2_3a, N1_2_3b, N1_2_3c, N1_2_3d, N1_2_3e, N1_2_3f, N1_2_3g, N1_2_3h, N1_2_3i, N1_2_3j⟩ := N1_2_3.out.kn)); (try (have M1_2_3 : Hid _ := Has.ext M1_2.out X23.out; obtain ⟨M1_2_3a, M1_2_3b, M1_2_3c, M1_2_3d, M1_2_3e, M1_2_3f, M1_2_3g, M1_2_3h, M1_2_3i, M1_2_3j⟩ := M1_2_3.out.kn)); (try (have N2_3 : Hid _ := Has.ext N2.out X23.out; obtain ⟨N2_3a, N2_3b, N2_3c, N2_3d, N2_3e, N2_3f, N2_3g, N2_3h, N2_3i, N2_3j⟩ := N2_3.out.kn)); (try (have M2_3 : Hid _ := Has.ext M2.out X23.out; obtain ⟨M2_3a, M2_3b, M2_3c, M2_3d, M2_3e, M2_3f, M2_3g, M2_3h, M2_3i, M2_3j⟩ := M2_3.out.kn)); obtain ⟨uq, hq1, hq2⟩ := hq; obtain ⟨aq, lq, cq, eq⟩ := hq2.isSlice; subst eq; subst hq1; obtain ⟨ur, hr1', hr2⟩ := hr; obtain ⟨ar, lr, cr, er⟩ := hr2.isSlice; subst er; subst hr1'))
    all_goals
      go_wp2_with fail
      go_meet
      first
        | with_reducible exact ⟨_, _, _, _, _, _, _, _, rfl, rfl, both_a X3.out hq2 hr2⟩
        | with_reducible exact ⟨_, _, _, _, _, _, _, _, rfl, rfl, both_swap (both_a X3.out hr2 hq2)⟩
        | ((with_reducible refine ⟨_, _, _, _, _, _, _, _, rfl, rfl, both_d X3.out hq2 hr2 ?_ ?_⟩) <;> (first | with_reducible exact N1_2_3.out | with_reducible exact M1_2_3.out | with_reducible exact N2_3.out | with_reducible exact M2_3.out | with_reducible exact N3.out | with_reducible exact M3.out | with_reducible exact N1_2_3.out.ext ((Ext.refl _).alloc _) | with_reducible exact M1_2_3.out.ext ((Ext.refl _).alloc _) | with_reducible exact N2_3.out.ext ((Ext.refl _).alloc _) | with_reducible exact M2_3.out.ext ((Ext.refl _).alloc _) | with_reducible exact N3.out.ext ((Ext.refl _).alloc _) | with_reducible exact M3.out.ext ((Ext.refl _).alloc _) | with_reducible exact ext_new1 (Ext.refl _) | assumption | (have s1 := X1.out.size; have s2 := X12.out.size; have s3 := X23.out.size; omega)))
        | ((with_reducible refine ⟨_, _, _, _, _, _, _, _, rfl, rfl, both_b X3.out hq2 hr2 ?_ ?_ ?_ ?_ ?_⟩) <;> (first | with_reducible exact N1_2_3.out | with_reducible exact M1_2_3.out | with_reducible exact N2_3.out | with_reducible exact M2_3.out | with_reducible exact N3.out | with_reducible exact M3.out | with_reducible exact N1_2_3.out.ext ((Ext.refl _).alloc _) | with_reducible exact M1_2_3.out.ext ((Ext.refl _).alloc _) | with_reducible exact N2_3.out.ext ((Ext.refl _).alloc _) | with_reducible exact M2_3.out.ext ((Ext.refl _).alloc _) | with_reducible exact N3.out.ext ((Ext.refl _).alloc _) | with_reducible exact M3.out.ext ((Ext.refl _).alloc _) | with_reducible exact ext_new1 (Ext.refl _) | assumption | (have s1 := X1.out.size; have s2 := X12.out.size; have s3 := X23.out.size; omega)))
        | ((with_reducible refine ⟨_, _, _, _, _, _, _, _, rfl, rfl, both_b (X3.out.alloc _) (hq2.ext ((Ext.refl _).alloc _)) (hr2.ext ((Ext.refl _).alloc _)) ?_ ?_ ?_ ?_ ?_⟩) <;> (first | with_reducible exact N1_2_3.out | with_reducible exact M1_2_3.out | with_reducible exact N2_3.out | with_reducible exact M2_3.out | with_reducible exact N3.out | with_reducible exact M3.out | with_reducible exact N1_2_3.out.ext ((Ext.refl _).alloc _) | with_reducible exact M1_2_3.out.ext ((Ext.refl _).alloc _) | with_reducible exact N2_3.out.ext ((Ext.refl _).alloc _) | with_reducible exact M2_3.out.ext ((Ext.refl _).alloc _) | with_reducible exact N3.out.ext ((Ext.refl _).alloc _) | with_reducible exact M3.out.ext ((Ext.refl _).alloc _) | with_reducible exact ext_new1 (Ext.refl _) | assumption | (have s1 := X1.out.size; have s2 := X12.out.size; have s3 := X23.out.size; omega)))
  case rest =>
    obtain ⟨gq, gr, aq, lq, cq, ar, lr, cr, rfl, rfl, hB⟩ := hcut
    obtain ⟨q0, q1, q2, q3⟩ := hB.out.q
    have HQ : Hid (IsI wc (.agg #[.bool (decide (Q < 0)), .slice aq lq cq]) Q) := ⟨_, rfl, hB.out.iq⟩
    have HRr : Hid (IsI wc (.agg #[.bool (decide (R < 0)), .slice ar lr cr]) R) := ⟨_, rfl, hB.out.ir⟩
    clear p0 p1 p2 p3 p4 p5 nes0a nes0b nes0c nes0d HL1 HM HI2 HD
    generalize decide (Q < 0) = dq at *
    generalize decide (R < 0) = dr at *
    go_wp2_with fail
    refine (HR1.out _ _ HQ.out).mono ?_
    rintro e w4 ⟨⟨h, rfl, hh⟩, x4⟩
    obtain ⟨uh, hh1, hh2⟩ := hh
    obtain ⟨ah, lh, ch, eh⟩ := hh2.isSlice
    subst eh
    subst hh1
    obtain ⟨dh, hdh⟩ : ∃ dh, decide (Q / 2 < 0) = dh := ⟨_, rfl⟩
    have HH4 : Hid (IsI (w4.alloc (.cells #[.bool dh, .slice ah lh ch] 63)) (.agg #[.bool dh, .slice ah lh ch]) (Q / 2)) := ⟨_, by rw [hdh], hh2.ext ((Ext.refl _).alloc _)⟩
    rw [hdh]
    have X4 : Hid (Ext W (w4.alloc (.cells #[.bool dh, .slice ah lh ch] 63))) := (hB.out.x.trans x4).alloc _
    have HQ4 : Hid (IsI (w4.alloc (.cells #[.bool dh, .slice ah lh ch] 63)) (.agg #[.bool dq, .slice aq lq cq]) Q) := (HQ.out.ext x4).ext ((Ext.refl _).alloc _)
    have HR4 : Hid (IsI (w4.alloc (.cells #[.bool dh, .slice ah lh ch] 63)) (.agg #[.bool dr, .slice ar lr cr]) R) := (HRr.out.ext x4).ext ((Ext.refl _).alloc _)
    have BH : Hid (Has (w4.alloc (.cells #[.bool dh, .slice ah lh ch] 63)) w4.heap.size (.bool dh) (.slice ah lh ch)) := ext_new1 (Ext.refl _)
    have BQ : Hid (Has (w4.alloc (.cells #[.bool dh, .slice ah lh ch] 63)) gq (.bool dq) (.slice aq lq cq)) := (hB.out.q.ext x4).ext ((Ext.refl _).alloc _)
    have BR : Hid (Has (w4.alloc (.cells #[.bool dh, .slice ah lh ch] 63)) gr (.bool dr) (.slice ar lr cr)) := (hB.out.r.ext x4).ext ((Ext.refl _).alloc _)
    clear hdh hh2 x4 q0 q1 q2 q3 HQ HRr hB
    go_wp2_with fail
    generalize w4.alloc (.cells #[.bool dh, .slice ah lh ch] 63) = W4 at *
    generalize w4.heap.size = gh at *
    obtain ⟨h0, h1, h2, h3⟩ := BH.out
    obtain ⟨q0, q1, q2, q3⟩ := BQ.out
    by_cases hev : 2 * (Q / 2) = Q
    · have e1 : Hid (Q / 2 = Z) := C1.out hev
      have ec : sgn (Q / 2 * 2 - Q) = 0 := by unfold sgn; rw [if_neg (by omega), if_pos (by omega)]
      rw [ec] at HC1
      clear hev ec C1 C2 C3
      go_region_held (fun w' => w'.cell? ⟨gh, 0, none⟩ = some (.bool dh) ∧ w'.cell? ⟨gh, 1, none⟩ = some (.slice ah lh ch) ∧ w'.cell? ⟨gq, 0, none⟩ = some (.bool dq) ∧ w'.cell? ⟨gq, 1, none⟩ = some (.slice aq lq cq)) (go_keep) (first | (go_at_call 61; refine (HL2.out _ _ (HH4.out.ext ((Ext.refl _).drew))).mono ?_; rintro e w5 ⟨⟨r5, rfl, hr5⟩, x5⟩; obtain ⟨s0, s1, s2, s3⟩ := BH.out.ext (cell_drew x5); obtain ⟨s4, s5, s6, s7⟩ := BQ.out.ext (cell_drew x5)) | (go_at_call 63; refine (HC1.out _ _ _ hr5 (HQ4.out.ext (cell_drew x5))).mono ?_; rintro e w6 ⟨rfl, x6⟩; obtain ⟨v0, v1, v2, v3⟩ := BH.out.ext ((cell_drew x5).trans x6); obtain ⟨v4, v5, v6, v7⟩ := BQ.out.ext ((cell_drew x5).trans x6)))
      obtain ⟨_, ⟨t0, t1, t2, t3⟩⟩ := LS.out.ext (X4.out.trans ((cell_drew x5).trans x6))
      have HZ9 : Hid (IsI w6 (.agg #[.bool dh, .slice ah lh ch]) Z) := by have h := HH4.out.ext ((cell_drew x5).trans x6); rw [e1.out] at h; exact h
      have X9 : Hid (Ext w w6) := XS.out.trans (X4.out.trans ((cell_drew x5).trans x6))
      go_wp2_with fail
      exact bodyPost_ret (v := .agg #[.bool dh, .slice ah lh ch]) (by simp [results, Try.results46, go_sem, t0, t1]) rfl ⟨⟨_, rfl, HZ9.out.set2 t0 t1⟩, (X9.out.setCell (show w.heap.size ≤ w.heap.size + 1 by omega) _).setCell (show w.heap.size ≤ w.heap.size + 1 by omega) _⟩
    · have HE : Hid (2 * (Q / 2) ≠ Q) := hev
      have ec : sgn (Q / 2 * 2 - Q) = -1 := by unfold sgn; rw [if_pos (by omega)]
      rw [ec] at HC1
      clear hev ec C1
      go_region_held (fun w' => w'.cell? ⟨gh, 0, none⟩ = some (.bool dh) ∧ w'.cell? ⟨gh, 1, none⟩ = some (.slice ah lh ch) ∧ w'.cell? ⟨gq, 0, none⟩ = some (.bool dq) ∧ w'.cell? ⟨gq, 1, none⟩ = some (.slice aq lq cq)) (go_keep) (first | (go_at_call 61; refine (HL2.out _ _ (HH4.out.ext ((Ext.refl _).drew))).mono ?_; rintro e w5 ⟨⟨r5, rfl, hr5⟩, x5⟩; obtain ⟨s0, s1, s2, s3⟩ := BH.out.ext (cell_drew x5); obtain ⟨s4, s5, s6, s7⟩ := BQ.out.ext (cell_drew x5)) | (go_at_call 63; refine (HC1.out _ _ _ hr5 (HQ4.out.ext (cell_drew x5))).mono ?_; rintro e w6 ⟨rfl, x6⟩; obtain ⟨v0, v1, v2, v3⟩ := BH.out.ext ((cell_drew x5).trans x6); obtain ⟨v4, v5, v6, v7⟩ := BQ.out.ext ((cell_drew x5).trans x6)))
      have X6 : Hid (Ext W w6) := X4.out.trans ((cell_drew x5).trans x6)
      have BH6 : Hid (Has w6 gh (.bool dh) (.slice ah lh ch)) := BH.out.ext ((cell_drew x5).trans x6)
      have BR6 : Hid (Has w6 gr (.bool dr) (.slice ar lr cr)) := BR.out.ext ((cell_drew x5).trans x6)
      have HH6 : Hid (IsI w6 (.agg #[.bool dh, .slice ah lh ch]) (Q / 2)) := HH4.out.ext ((cell_drew x5).trans x6)
      have HR6 : Hid (IsI w6 (.agg #[.bool dr, .slice ar lr cr]) R) := HR4.out.ext ((cell_drew x5).trans x6)
      clear h0 h1 h2 h3 q0 q1 q2 q3 s0 s1 s2 s3 s4 s5 s6 s7 v0 v1 v2 v3 v4 v5 v6 v7 x5 x6 hr5 BH BQ BR HH4 HR4 HQ4 X4 HC1 HL2 HR1
      obtain ⟨h0, h1, h2, h3⟩ := BH6.out
      have nh6 : gh ≠ w6.heap.size := Nat.ne_of_lt BH6.out.lt
      have nh6' := nh6.symm
      go_upto_region 6 with fail
      go_cut [7] (fun s7 wx => ∃ gu au lu cu, s7 = .pointer (some ⟨gu, 0, none⟩) ∧ Hid (OneV w6 wx gu (.bool (decide (Q / 2 + 1 < 0))) (.slice au lu cu) (Q / 2 + 1).natAbs))
      case first =>
        go_region_held (fun w' => w'.cell? ⟨gh, 0, none⟩ = some (.bool dh) ∧ w'.cell? ⟨gh, 1, none⟩ = some (.slice ah lh ch)) (first | (go_keep; done) | skip) (first | (go_at_call 55; refine (HO.out _).mono ?_; rintro e w7 ⟨⟨o7, rfl, ho7⟩, x7⟩; have X67 : Hid (Ext w6 w7) := (by first | exact x7 | exact cell_drew x7 | exact ((Ext.refl w6).alloc _).trans x7 | exact ((Ext.refl w6).drew.alloc _).trans x7); obtain ⟨y0, y1, y2, y3⟩ := BH6.out.ext X67.out; have ny7 : gh ≠ w7.heap.size := Nat.ne_of_lt (BH6.out.ext X67.out).lt; have ny7' := ny7.symm; (try (first | have N7 : Hid _ := ext_new1 x7 | have N7 : Hid _ := ext_new1 (cell_drew x7)); (try simp only [World.size_alloc, size_drewN] at N7); obtain ⟨N7a, N7b, N7c, N7d, N7e, N7f, N7g, N7h, N7i, N7j⟩ := N7.out.kn)) | (go_at_call 38; refine (HP.out _ _ _ ((HH6.out.ext X67.out).ext (by first | exact Ext.refl _ | exact (Ext.refl _).alloc _)) (ho7.ext (by first | exact Ext.refl _ | exact (Ext.refl _).alloc _))).mono ?_; rintro e w8 ⟨⟨r8, rfl, hr8⟩, x8⟩; have X78 : Hid (Ext w7 w8) := (by first | exact x8 | exact cell_drew x8 | exact ((Ext.refl w7).alloc _).trans x8 | exact ((Ext.refl w7).drew.alloc _).trans x8); obtain ⟨z0, z1, z2, z3⟩ := BH6.out.ext (X67.out.trans X78.out); have nz8 : gh ≠ w8.heap.size := Nat.ne_of_lt (BH6.out.ext (X67.out.trans X78.out)).lt; have nz8' := nz8.symm; (try (have N7_8 : Hid _ := Has.ext N7.out X78.out; obtain ⟨N8a, N8b, N8c, N8d, N8e, N8f, N8g, N8h, N8i, N8j⟩ := N7_8.out.kn)); (try (have N8 : Hid _ := ext_new1 x8; obtain ⟨M8a, M8b, M8c, M8d, M8e, M8f, M8g, M8h, M8i, M8j⟩ := N8.out.kn)); obtain ⟨u8, hu8, k8⟩ := hr8; obtain ⟨av, lv, cv, hav⟩ := k8.isSlice; subst hav; subst hu8))
        all_goals
          go_wp2_with fail
          go_meet
          first
            | with_reducible exact ⟨_, _, _, _, rfl, one_a (X67.out.trans X78.out) k8⟩
            | ((with_reducible refine ⟨_, _, _, _, rfl, one_b (X67.out.trans X78.out) k8 ?_ ?_⟩) <;> (first | with_reducible exact N7_8.out | with_reducible exact N8.out | (have s1 := X67.out.size; have s2 := X78.out.size; omega)))
      case rest =>
        obtain ⟨gu, au, lu, cu, rfl, hO⟩ := hcut
        have X9 : Hid (Ext W wc) := X6.out.trans hO.out.x
        have BH9 : Hid (Has wc gh (.bool dh) (.slice ah lh ch)) := BH6.out.ext hO.out.x
        have HH9 : Hid (IsI wc (.agg #[.bool dh, .slice ah lh ch]) (Q / 2)) := HH6.out.ext hO.out.x
        have HR9 : Hid (IsI wc (.agg #[.bool dr, .slice ar lr cr]) R) := HR6.out.ext hO.out.x
        obtain ⟨r0, r1, r2, r3⟩ := BR6.out.ext hO.out.x
        clear h0 h1 h2 h3 nh6 nh6'
        go_wp2_with fail
        refine (HZ.out _ _ HR9.out).mono ?_
        rintro e wz ⟨rfl, xz⟩
        have Xz : Hid (Ext W wz) := X9.out.trans xz
        have BHz : Hid (Has wz gh (.bool dh) (.slice ah lh ch)) := BH9.out.ext xz
        have HHz : Hid (IsI wz (.agg #[.bool dh, .slice ah lh ch]) (Q / 2)) := HH9.out.ext xz
        have BUz : Hid (Has wz gu (.bool (decide (Q / 2 + 1 < 0))) (.slice au lu cu)) := hO.out.h.ext xz
        have HUz : Hid (IsI wz (.agg #[.bool (decide (Q / 2 + 1 < 0)), .slice au lu cu]) (Q / 2 + 1)) := ⟨_, rfl, hO.out.i.ext xz⟩
        clear hO BH9 HH9 HR9 r0 r1 r2 r3 BR6 HR6 BH6 HH6 X6 X9 xz HO HP
        generalize decide (Q / 2 + 1 < 0) = du at *
        by_cases hR0 : R = 0
        · rw [decide_eq_true hR0]
          have HR0 : Hid (R = 0) := hR0
          clear hR0
          obtain ⟨h0, h1, h2, h3⟩ := BHz.out
          go_wp2_with fail
          have BH9 := BHz
          have HH9 := HHz
          by_cases h2e : 2 * (Q / 2 / 2) = Q / 2
          · have e1 : Hid (Q / 2 = Z) := C3.out HE.out HR0.out h2e
            have ec : sgn (Q / 2 / 2 * 2 - Q / 2) = 0 := by unfold sgn; rw [if_neg (by omega), if_pos (by omega)]
            rw [ec] at HC2
            clear h2e ec C2 C3 HE HR0
            go_region_held (fun w' => w'.cell? ⟨gh, 0, none⟩ = some (.bool dh) ∧ w'.cell? ⟨gh, 1, none⟩ = some (.slice ah lh ch)) (go_keep) (first | (go_at_call 62; refine (HR2.out _ _ (HH9.out.ext ((Ext.refl _).drew))).mono ?_; rintro e wa ⟨⟨ra, rfl, hra⟩, xa⟩; obtain ⟨ha0, ha1, ha2, ha3⟩ := BH9.out.ext (cell_drew xa)) | (go_at_call 61; refine (HL3.out _ _ hra).mono ?_; rintro e wb ⟨⟨rb, rfl, hrb⟩, xb⟩; obtain ⟨hb0, hb1, hb2, hb3⟩ := BH9.out.ext ((cell_drew xa).trans xb)) | (go_at_call 63; refine (HC2.out _ _ _ hrb (HH9.out.ext ((cell_drew xa).trans xb))).mono ?_; rintro e wd ⟨rfl, xd⟩; obtain ⟨hd0, hd1, hd2, hd3⟩ := BH9.out.ext (((cell_drew xa).trans xb).trans xd)))
            obtain ⟨_, ⟨t0, t1, t2, t3⟩⟩ := LS.out.ext (Xz.out.trans (((cell_drew xa).trans xb).trans xd))
            have HZ9 : Hid (IsI wd (.agg #[.bool dh, .slice ah lh ch]) Z) := by have h := HHz.out.ext (((cell_drew xa).trans xb).trans xd); rw [e1.out] at h; exact h
            have X9 : Hid (Ext w wd) := XS.out.trans (Xz.out.trans (((cell_drew xa).trans xb).trans xd))
            go_wp2_with fail
            exact bodyPost_ret (v := .agg #[.bool dh, .slice ah lh ch]) (by simp [results, Try.results46, go_sem, t0, t1]) rfl ⟨⟨_, rfl, HZ9.out.set2 t0 t1⟩, (X9.out.setCell (show w.heap.size ≤ w.heap.size + 1 by omega) _).setCell (show w.heap.size ≤ w.heap.size + 1 by omega) _⟩
          · have e1 : Hid (Q / 2 + 1 = Z) := C2.out HE.out (.inr h2e)
            have ec : sgn (Q / 2 / 2 * 2 - Q / 2) = -1 := by unfold sgn; rw [if_pos (by omega)]
            rw [ec] at HC2
            clear h2e ec C2 C3 HE HR0
            go_region_held (fun w' => w'.cell? ⟨gh, 0, none⟩ = some (.bool dh) ∧ w'.cell? ⟨gh, 1, none⟩ = some (.slice ah lh ch)) (go_keep) (first | (go_at_call 62; refine (HR2.out _ _ (HH9.out.ext ((Ext.refl _).drew))).mono ?_; rintro e wa ⟨⟨ra, rfl, hra⟩, xa⟩; obtain ⟨ha0, ha1, ha2, ha3⟩ := BH9.out.ext (cell_drew xa)) | (go_at_call 61; refine (HL3.out _ _ hra).mono ?_; rintro e wb ⟨⟨rb, rfl, hrb⟩, xb⟩; obtain ⟨hb0, hb1, hb2, hb3⟩ := BH9.out.ext ((cell_drew xa).trans xb)) | (go_at_call 63; refine (HC2.out _ _ _ hrb (HH9.out.ext ((cell_drew xa).trans xb))).mono ?_; rintro e wd ⟨rfl, xd⟩; obtain ⟨hd0, hd1, hd2, hd3⟩ := BH9.out.ext (((cell_drew xa).trans xb).trans xd)))
            obtain ⟨uu0, uu1, uu2, uu3⟩ := BUz.out.ext (((cell_drew xa).trans xb).trans xd)
            obtain ⟨_, ⟨t0, t1, t2, t3⟩⟩ := LS.out.ext (Xz.out.trans (((cell_drew xa).trans xb).trans xd))
            have HZ9 : Hid (IsI wd (.agg #[.bool du, .slice au lu cu]) Z) := by have h := HUz.out.ext (((cell_drew xa).trans xb).trans xd); rw [e1.out] at h; exact h
            have X9 : Hid (Ext w wd) := XS.out.trans (Xz.out.trans (((cell_drew xa).trans xb).trans xd))
            go_wp2_with fail
            exact bodyPost_ret (v := .agg #[.bool du, .slice au lu cu]) (by simp [results, Try.results46, go_sem, t0, t1]) rfl ⟨⟨_, rfl, HZ9.out.set2 t0 t1⟩, (X9.out.setCell (show w.heap.size ≤ w.heap.size + 1 by omega) _).setCell (show w.heap.size ≤ w.heap.size + 1 by omega) _⟩
        · rw [decide_eq_false hR0]
          have e1 : Hid (Q / 2 + 1 = Z) := C2.out HE.out (.inl hR0)
          clear hR0 C2 C3 HE
          obtain ⟨uu0, uu1, uu2, uu3⟩ := BUz.out
          obtain ⟨_, ⟨t0, t1, t2, t3⟩⟩ := LS.out.ext Xz.out
          have HZ9 : Hid (IsI wz (.agg #[.bool du, .slice au lu cu]) Z) := by have h := HUz.out; rw [e1.out] at h; exact h
          have X9 : Hid (Ext w wz) := XS.out.trans Xz.out
          go_wp2_with fail
          exact bodyPost_ret (v := .agg #[.bool du, .slice au lu cu]) (by simp [results, Try.results46, go_sem, t0, t1]) rfl ⟨⟨_, rfl, HZ9.out.set2 t0 t1⟩, (X9.out.setCell (show w.heap.size ≤ w.heap.size + 1 by omega) _).setCell (show w.heap.size ≤ w.heap.size + 1 by omega) _⟩
end Go.Proofs.Ytbmocnigmpmfkaa
