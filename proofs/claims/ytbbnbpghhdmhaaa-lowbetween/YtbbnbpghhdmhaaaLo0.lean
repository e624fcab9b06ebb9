/- low: its leaves. -/
import Derived.Test.YtbbnbpghhdmhaaaV2b
import Derived.Test.YtbbnbpghhdmhaaaHv
import Derived.Test.YtbbnbpghhdmhaaaNearNum
import Derived.Test.YtbbnbpghhdmhaaaFaces  
import Derived.Deep.RegionHeld3
import Derived.Deep.Cut
import Derived.Deep.DeepCutAuto
namespace Go.Proofs.Ytbbnbpghhdmhaaa
open Go.RowKit Go.Shelf
theorem wrap_le (n : Int) (h1 : -9223372036854775808 ≤ n) (h2 : n ≤ 9223372036854775807) : wrap64 n = n := by unfold wrap64; omega
/-- a shift -/
def okSh (x : Int) : Bool := decide (0 ≤ x) && decide (x ≤ 15)
theorem okSh_iff {x : Int} : okSh x = true ↔ 0 ≤ x ∧ x ≤ 15 := by unfold okSh; simp
/-- how many parts it has -/
def pw (s : Int) : Int := 2 ^ s.toNat
theorem pw_bounds {s : Int} (h1 : 0 ≤ s) (h2 : s ≤ 15) : 1 ≤ pw s ∧ pw s ≤ 32768 := by
  unfold pw
  obtain ⟨n, rfl⟩ := Int.eq_ofNat_of_zero_le h1
  have hn : n ≤ 15 := by omega
  have e : (n : Int).toNat = n := by omega
  rw [e]
  clear e h1 h2
  revert hn
  revert n
  decide
/-- what a number becomes -/
def lw (s y v : Int) : Int := nearI ((pw s - 1) * y + v) (pw s)
theorem near_between (p y v z a b : Int) (hp : 1 ≤ p) (h : IsNear ((p - 1) * y + v) p z) (ya : a ≤ y) (yb : y ≤ b) (va : a ≤ v) (vb : v ≤ b) : a ≤ z ∧ z ≤ b := by
  obtain ⟨h1, h2, _⟩ := h
  have e : (p - 1) * (y - z) = (p - 1) * y - z * p + z := by grind
  refine ⟨?_, ?_⟩
  · by_cases hz : a ≤ z
    · exact hz
    · exfalso
      have m : (p - 1) * 1 ≤ (p - 1) * (y - z) := Int.mul_le_mul_of_nonneg_left (by omega) (by omega)
      omega
  · by_cases hz : z ≤ b
    · exact hz
    · exfalso
      have m : (p - 1) * (y - z) ≤ (p - 1) * (-1) := Int.mul_le_mul_of_nonneg_left (by omega) (by omega)
      omega
theorem lw_near (s y v : Int) (h1 : 0 ≤ s) (h2 : s ≤ 15) : IsNear ((pw s - 1) * y + v) (pw s) (lw s y v) := nearI_spec _ _ (by have := pw_bounds h1 h2; omega)
theorem lw_between (s y v a b : Int) (h1 : 0 ≤ s) (h2 : s ≤ 15) (ya : a ≤ y) (yb : y ≤ b) (va : a ≤ v) (vb : v ≤ b) : a ≤ lw s y v ∧ lw s y v ≤ b :=
  near_between (pw s) y v _ a b (pw_bounds h1 h2).1 (lw_near s y v h1 h2) ya yb va vb
theorem okW_in {a : Int} (h1 : -35184372088832 < a) (h2 : a < 35184372088832) : okW a = true := by
  unfold okW; simp; omega
theorem lw_ok (s y v : Int) (hs : okSh s = true) (hy : okW y = true) (hv : okW v = true) : okW (lw s y v) = true := by
  have g0 := okW_bounds hy
  have g1 := okW_bounds hv
  obtain ⟨h1, h2⟩ := okSh_iff.1 hs
  have := lw_between s y v (-35184372088831) 35184372088831 h1 h2 (by omega) (by omega) (by omega) (by omega)
  exact okW_in (by omega) (by omega)
set_option maxHeartbeats 400000 in
theorem isshift_any (x : Int) (w : World) : Calls Try.prog 16 #[.int .i64 x] w fun e w' => e = .returned (.bool (okSh x)) ∧ w' = w := by
  by_cases h1 : 0 ≤ x
  · by_cases h2 : x ≤ 15
    · have e : Hid (okSh x = true) := okSh_iff.2 ⟨h1, h2⟩
      go_enter Try.func16, Try.ntmps16
      go_wp2
      go_ret
      rw [e.out]; exact ⟨rfl, rfl⟩
    · have e : Hid (okSh x = false) := Bool.eq_false_iff.2 (fun h => h2 (okSh_iff.1 h).2)
      go_enter Try.func16, Try.ntmps16
      go_wp2
      go_ret
      rw [e.out]; exact ⟨rfl, rfl⟩
  · have e : Hid (okSh x = false) := Bool.eq_false_iff.2 (fun h => h1 (okSh_iff.1 h).1)
    go_enter Try.func16, Try.ntmps16
    go_wp2
    go_ret
    rw [e.out]; exact ⟨rfl, rfl⟩
set_option maxRecDepth 20000 in
set_option maxHeartbeats 1000000 in
theorem numbersof_any (x y z : Int) (w : World) : Calls Try.prog 19 #[.agg #[.int .i64 x, .int .i64 y, .int .i64 z]] w fun e w' => e = .returned (.agg #[.int .i64 x, .int .i64 y, .int .i64 z]) ∧ Ext w w' := by
  go_enter Try.func19, Try.ntmps19
  go_wp2_with fail
  exact bodyPost_ret (v := .agg #[.int .i64 x, .int .i64 y, .int .i64 z]) (by simp [results, Try.results19, go_sem]) rfl ⟨rfl, by repeat (first | with_reducible assumption | with_reducible exact Ext.refl _ | with_reducible refine Ext.drew ?_ | with_reducible refine Ext.drewN ?_ _ | with_reducible refine Ext.alloc ?_ _ | with_reducible refine Ext.set ?_ (by first | exact Nat.le_refl _ | (dsimp only; omega) | (simp; done)) _)⟩
set_option maxRecDepth 20000 in
set_option maxHeartbeats 4000000 in
theorem meanby_any (s : Int) (w : World) (h1 : 0 ≤ s) (h2 : s ≤ 15) : Calls Try.prog 20 #[.int .i64 s] w fun e w' => e = .returned (.func (.func 32) #[] #[.pointer (some ⟨w.heap.size, 0, none⟩)]) ∧ HV w' w.heap.size [.int .i64 (pw s)] ∧ Ext w w' := by
  obtain rfl | rfl | rfl | rfl | rfl | rfl | rfl | rfl | rfl | rfl | rfl | rfl | rfl | rfl | rfl | rfl : s = 0 ∨ s = 1 ∨ s = 2 ∨ s = 3 ∨ s = 4 ∨ s = 5 ∨ s = 6 ∨ s = 7 ∨ s = 8 ∨ s = 9 ∨ s = 10 ∨ s = 11 ∨ s = 12 ∨ s = 13 ∨ s = 14 ∨ s = 15 := by omega
  all_goals
    go_enter Try.func20, Try.ntmps20
    go_wp2_with fail
    exact bodyPost_ret (v := .func (.func 32) #[] #[.pointer (some ⟨w.heap.size, 0, none⟩)]) (by simp [results, Try.results20, go_sem]) rfl ⟨rfl, hv_at rfl, (Ext.refl w).alloc _⟩
theorem ratio_pos (n p : Int) (w : World) (hp : 1 ≤ p ∧ p ≤ 32768) (h1 : -9223372036854775808 ≤ n) (h2 : n ≤ 9223372036854775807) (hz : okW (nearI n p) = true) :
    Calls Try.prog 33 #[.int .i64 n, .int .i64 p] w fun e w' => e = .returned (.tuple #[.int .i64 (nearI n p), .int .i64 0]) ∧ Ext w w' := by
  have h := ratio_any n p w h1 h2 (by omega) (by omega)
  have e := share_word n 1 p (nearI n p) (by omega) (by
    have e : over (n * 1) p = n := by unfold over; rw [if_neg (by omega), Int.mul_one]
    rw [e, Int.natAbs_of_nonneg (by omega)]
    exact nearI_spec n p (by omega))
  rw [hz, if_pos rfl] at e
  rw [e] at h
  exact h
set_option maxRecDepth 20000 in
set_option maxHeartbeats 4000000 in
theorem meanby1_any (s y v : Int) (g : Nat) (w : World) (hs : okSh s = true) (hy : okW y = true) (hv : okW v = true) (hg : HV w g [.int .i64 (pw s)]) :
    Calls Try.prog 32 #[.int .i64 y, .int .i64 v, .pointer (some ⟨g, 0, none⟩)] w fun e w' => e = .returned (.tuple #[.int .i64 (lw s y v), .int .i64 0]) ∧ Ext w w' := by
  have k0 := okW_bounds hy
  have k1 := okW_bounds hv
  have k2 := pw_bounds (okSh_iff.1 hs).1 (okSh_iff.1 hs).2
  have hz := lw_ok s y v hs hy hv
  have c0 : w.cell? ⟨g, 0, none⟩ = some (.int .i64 (pw s)) := hg.c 0 rfl
  have b1 : (pw s - 1) * y ≤ 32767 * 35184372088832 := by
    have m1 : (pw s - 1) * y ≤ (pw s - 1) * 35184372088832 := Int.mul_le_mul_of_nonneg_left (by omega) (by omega)
    omega
  have b2 : -(32767 * 35184372088832) ≤ (pw s - 1) * y := by
    have m1 : (pw s - 1) * (-35184372088832) ≤ (pw s - 1) * y := Int.mul_le_mul_of_nonneg_left (by omega) (by omega)
    omega
  have HR : Hid (∀ w, Calls Try.prog 33 #[.int .i64 ((pw s - 1) * y + v), .int .i64 (pw s)] w fun e w' => e = .returned (.tuple #[.int .i64 (lw s y v), .int .i64 0]) ∧ Ext w w') := fun w => ratio_pos _ _ w k2 (by omega) (by omega) hz
  generalize lw s y v = z at *
  clear hs hy hv hz hg
  generalize pw s = p at *
  obtain ⟨p1, e1, f1⟩ : ∃ p1, wrap64 (p - 1) = p1 ∧ p1 = p - 1 := ⟨_, wrap_le _ (by omega) (by omega), rfl⟩
  rw [← f1] at HR b1 b2
  obtain ⟨q, e2, f2⟩ : ∃ q, wrap64 (p1 * y) = q ∧ q = p1 * y := ⟨_, wrap_le _ (by omega) (by omega), rfl⟩
  rw [← f2] at HR b1 b2
  obtain ⟨n, e3, f3⟩ : ∃ n, wrap64 (q + v) = n ∧ n = q + v := ⟨_, wrap_le _ (by omega) (by omega), rfl⟩
  rw [← f3] at HR
  clear f1 f2 f3 b1 b2 k0 k1 k2
  go_enter Try.func32, Try.ntmps32
  go_wp2_with fail
  refine (HR.out _).mono ?_
  rintro e w1 ⟨rfl, x1⟩
  go_wp2_with fail
  go_ret2
  exact ⟨rfl, x1⟩
set_option maxRecDepth 20000 in
set_option maxHeartbeats 8000000 in
theorem lthrough_any (a0 a1 a2 b0 b1 b2 r0 r1 r2 : Int) (g : Nat) (w : World)
    (H0 : Hid (∀ w', Ext w w' → Calls Try.prog 32 #[.int .i64 a0, .int .i64 b0, .pointer (some ⟨g, 0, none⟩)] w' fun e w'' => e = .returned (.tuple #[.int .i64 r0, .int .i64 0]) ∧ Ext w' w''))
    (H1 : Hid (∀ w', Ext w w' → Calls Try.prog 32 #[.int .i64 a1, .int .i64 b1, .pointer (some ⟨g, 0, none⟩)] w' fun e w'' => e = .returned (.tuple #[.int .i64 r1, .int .i64 0]) ∧ Ext w' w''))
    (H2 : Hid (∀ w', Ext w w' → Calls Try.prog 32 #[.int .i64 a2, .int .i64 b2, .pointer (some ⟨g, 0, none⟩)] w' fun e w'' => e = .returned (.tuple #[.int .i64 r2, .int .i64 0]) ∧ Ext w' w'')) :
    Calls Try.prog 18 #[.agg #[.int .i64 a0, .int .i64 a1, .int .i64 a2], .agg #[.int .i64 b0, .int .i64 b1, .int .i64 b2], .func (.func 32) #[] #[.pointer (some ⟨g, 0, none⟩)]] w fun e w' => e = .returned (.tuple #[.agg #[.int .i64 r0, .int .i64 r1, .int .i64 r2], .int .i64 0]) ∧ Ext w w' := by
  have BA : Hid (HV ((((w.alloc (.cells #[.int .i64 a0, .int .i64 a1, .int .i64 a2] 44)).alloc (.cells #[.int .i64 b0, .int .i64 b1, .int .i64 b2] 44)).alloc (.cells #[.int .i64 0, .int .i64 0, .int .i64 0] 44)).alloc (.cells #[.int .i64 0, .int .i64 0, .int .i64 0] 44)) w.heap.size [.int .i64 a0, .int .i64 a1, .int .i64 a2]) := (((hv_at rfl).alloc _).alloc _).alloc _
  have BB : Hid (HV ((((w.alloc (.cells #[.int .i64 a0, .int .i64 a1, .int .i64 a2] 44)).alloc (.cells #[.int .i64 b0, .int .i64 b1, .int .i64 b2] 44)).alloc (.cells #[.int .i64 0, .int .i64 0, .int .i64 0] 44)).alloc (.cells #[.int .i64 0, .int .i64 0, .int .i64 0] 44)) (w.heap.size + 1) [.int .i64 b0, .int .i64 b1, .int .i64 b2]) := ((hv_at (by simp)).alloc _).alloc _
  have BR : Hid (HV ((((w.alloc (.cells #[.int .i64 a0, .int .i64 a1, .int .i64 a2] 44)).alloc (.cells #[.int .i64 b0, .int .i64 b1, .int .i64 b2] 44)).alloc (.cells #[.int .i64 0, .int .i64 0, .int .i64 0] 44)).alloc (.cells #[.int .i64 0, .int .i64 0, .int .i64 0] 44)) (w.heap.size + 2) [.int .i64 0, .int .i64 0, .int .i64 0]) := (hv_at (by simp)).alloc _
  have BM : Hid (HV ((((w.alloc (.cells #[.int .i64 a0, .int .i64 a1, .int .i64 a2] 44)).alloc (.cells #[.int .i64 b0, .int .i64 b1, .int .i64 b2] 44)).alloc (.cells #[.int .i64 0, .int .i64 0, .int .i64 0] 44)).alloc (.cells #[.int .i64 0, .int .i64 0, .int .i64 0] 44)) (w.heap.size + 3) [.int .i64 0, .int .i64 0, .int .i64 0]) := hv_at (by simp)
  have HX : Hid (Ext w ((((w.alloc (.cells #[.int .i64 a0, .int .i64 a1, .int .i64 a2] 44)).alloc (.cells #[.int .i64 b0, .int .i64 b1, .int .i64 b2] 44)).alloc (.cells #[.int .i64 0, .int .i64 0, .int .i64 0] 44)).alloc (.cells #[.int .i64 0, .int .i64 0, .int .i64 0] 44))) := ((((Ext.refl w).alloc _).alloc _).alloc _).alloc _
  have lt2 : Hid (w.heap.size ≤ w.heap.size + 2) := Nat.le_add_right _ _
  have lt3 : Hid (w.heap.size ≤ w.heap.size + 3) := Nat.le_add_right _ _
  go_enter Try.func18, Try.ntmps18
  go_wp2_with fail
  generalize ((((w.alloc (.cells #[.int .i64 a0, .int .i64 a1, .int .i64 a2] 44)).alloc (.cells #[.int .i64 b0, .int .i64 b1, .int .i64 b2] 44)).alloc (.cells #[.int .i64 0, .int .i64 0, .int .i64 0] 44)).alloc (.cells #[.int .i64 0, .int .i64 0, .int .i64 0] 44)) = wa at *
  refine wp_loop_rounds 4 ?_
  rw [rounds_succ]
  go_upto_region 5 with fail
  have qa : wa.cell? ⟨w.heap.size, 0, none⟩ = some (.int .i64 a0) := BA.out.c 0 rfl
  have qb : wa.cell? ⟨w.heap.size + 1, 0, none⟩ = some (.int .i64 b0) := BB.out.c 0 rfl
  go_region_held3 (fun w' => w'.cell? ⟨w.heap.size, 0, none⟩ = some (.int .i64 a0) ∧ w'.cell? ⟨w.heap.size + 1, 0, none⟩ = some (.int .i64 b0)) (first | (simp [*]; done) | skip) (first | (go_at_call 32; refine (H0.out _ (HX.out.trans (by repeat (first | with_reducible assumption | with_reducible exact Ext.refl _ | with_reducible refine Ext.drew ?_ | with_reducible refine Ext.drewN ?_ _ | with_reducible refine Ext.alloc ?_ _ | with_reducible refine Ext.set ?_ (by first | exact Nat.le_refl _ | (dsimp only; omega) | (simp; done)) _)))).mono ?_; rintro e ua ⟨rfl, xa0⟩; have xa : Ext wa ua := Ext.trans (by repeat (first | with_reducible assumption | with_reducible exact Ext.refl _ | with_reducible refine Ext.drew ?_ | with_reducible refine Ext.drewN ?_ _ | with_reducible refine Ext.alloc ?_ _ | with_reducible refine Ext.set ?_ (by first | exact Nat.le_refl _ | (dsimp only; omega) | (simp; done)) _)) xa0; clear xa0; have ka : ua.cell? ⟨w.heap.size, 0, none⟩ = some (.int .i64 a0) := (BA.out.ext xa).c 0 rfl; have kb : ua.cell? ⟨w.heap.size + 1, 0, none⟩ = some (.int .i64 b0) := (BB.out.ext xa).c 0 rfl))
  have BA : Hid (HV ua w.heap.size [.int .i64 a0, .int .i64 a1, .int .i64 a2]) := BA.out.ext xa
  have BB : Hid (HV ua (w.heap.size + 1) [.int .i64 b0, .int .i64 b1, .int .i64 b2]) := BB.out.ext xa
  have BR : Hid (HV ua (w.heap.size + 2) [.int .i64 0, .int .i64 0, .int .i64 0]) := BR.out.ext xa
  have BM : Hid (HV ua (w.heap.size + 3) [.int .i64 0, .int .i64 0, .int .i64 0]) := BM.out.ext xa
  have HX : Hid (Ext w ua) := HX.out.trans xa
  clear qa qb ka kb xa H0
  have m0 : ua.cell? ⟨w.heap.size + 3, 0, none⟩ = some (.int .i64 0) := BM.out.c 0 rfl
  have m1 : ua.frozen? ⟨w.heap.size + 3, 0, none⟩ = false := BM.out.f 0 rfl
  go_wp2_with fail
  have BA : Hid (HV (ua.setCell ⟨w.heap.size + 3, 0, none⟩ (.int .i64 r0)) w.heap.size [.int .i64 a0, .int .i64 a1, .int .i64 a2]) := BA.out.far (by omega)
  have BB : Hid (HV (ua.setCell ⟨w.heap.size + 3, 0, none⟩ (.int .i64 r0)) (w.heap.size + 1) [.int .i64 b0, .int .i64 b1, .int .i64 b2]) := BB.out.far (by omega)
  have BR : Hid (HV (ua.setCell ⟨w.heap.size + 3, 0, none⟩ (.int .i64 r0)) (w.heap.size + 2) [.int .i64 0, .int .i64 0, .int .i64 0]) := BR.out.far (by omega)
  have BM : Hid (HV (ua.setCell ⟨w.heap.size + 3, 0, none⟩ (.int .i64 r0)) (w.heap.size + 3) [.int .i64 r0, .int .i64 0, .int .i64 0]) := BM.out.set 0 _
  have HX : Hid (Ext w (ua.setCell ⟨w.heap.size + 3, 0, none⟩ (.int .i64 r0))) := HX.out.set (p := ⟨w.heap.size + 3, 0, none⟩) lt3.out _
  clear m0 m1
  generalize (ua.setCell ⟨w.heap.size + 3, 0, none⟩ (.int .i64 r0)) = va at *
  rw [rounds_succ]
  go_upto_region 5 with fail
  have qa : va.cell? ⟨w.heap.size, 1, none⟩ = some (.int .i64 a1) := BA.out.c 1 rfl
  have qb : va.cell? ⟨w.heap.size + 1, 1, none⟩ = some (.int .i64 b1) := BB.out.c 1 rfl
  go_region_held3 (fun w' => w'.cell? ⟨w.heap.size, 1, none⟩ = some (.int .i64 a1) ∧ w'.cell? ⟨w.heap.size + 1, 1, none⟩ = some (.int .i64 b1)) (first | (simp [*]; done) | skip) (first | (go_at_call 32; refine (H1.out _ (HX.out.trans (by repeat (first | with_reducible assumption | with_reducible exact Ext.refl _ | with_reducible refine Ext.drew ?_ | with_reducible refine Ext.drewN ?_ _ | with_reducible refine Ext.alloc ?_ _ | with_reducible refine Ext.set ?_ (by first | exact Nat.le_refl _ | (dsimp only; omega) | (simp; done)) _)))).mono ?_; rintro e ub ⟨rfl, xb0⟩; have xb : Ext va ub := Ext.trans (by repeat (first | with_reducible assumption | with_reducible exact Ext.refl _ | with_reducible refine Ext.drew ?_ | with_reducible refine Ext.drewN ?_ _ | with_reducible refine Ext.alloc ?_ _ | with_reducible refine Ext.set ?_ (by first | exact Nat.le_refl _ | (dsimp only; omega) | (simp; done)) _)) xb0; clear xb0; have ka : ub.cell? ⟨w.heap.size, 1, none⟩ = some (.int .i64 a1) := (BA.out.ext xb).c 1 rfl; have kb : ub.cell? ⟨w.heap.size + 1, 1, none⟩ = some (.int .i64 b1) := (BB.out.ext xb).c 1 rfl))
  have BA : Hid (HV ub w.heap.size [.int .i64 a0, .int .i64 a1, .int .i64 a2]) := BA.out.ext xb
  have BB : Hid (HV ub (w.heap.size + 1) [.int .i64 b0, .int .i64 b1, .int .i64 b2]) := BB.out.ext xb
  have BR : Hid (HV ub (w.heap.size + 2) [.int .i64 0, .int .i64 0, .int .i64 0]) := BR.out.ext xb
  have BM : Hid (HV ub (w.heap.size + 3) [.int .i64 r0, .int .i64 0, .int .i64 0]) := BM.out.ext xb
  have HX : Hid (Ext w ub) := HX.out.trans xb
  clear qa qb ka kb xb H1
  have m0 : ub.cell? ⟨w.heap.size + 3, 1, none⟩ = some (.int .i64 0) := BM.out.c 1 rfl
  have m1 : ub.frozen? ⟨w.heap.size + 3, 1, none⟩ = false := BM.out.f 1 rfl
  go_wp2_with fail
  have BA : Hid (HV (ub.setCell ⟨w.heap.size + 3, 1, none⟩ (.int .i64 r1)) w.heap.size [.int .i64 a0, .int .i64 a1, .int .i64 a2]) := BA.out.far (by omega)
  have BB : Hid (HV (ub.setCell ⟨w.heap.size + 3, 1, none⟩ (.int .i64 r1)) (w.heap.size + 1) [.int .i64 b0, .int .i64 b1, .int .i64 b2]) := BB.out.far (by omega)
  have BR : Hid (HV (ub.setCell ⟨w.heap.size + 3, 1, none⟩ (.int .i64 r1)) (w.heap.size + 2) [.int .i64 0, .int .i64 0, .int .i64 0]) := BR.out.far (by omega)
  have BM : Hid (HV (ub.setCell ⟨w.heap.size + 3, 1, none⟩ (.int .i64 r1)) (w.heap.size + 3) [.int .i64 r0, .int .i64 r1, .int .i64 0]) := BM.out.set 1 _
  have HX : Hid (Ext w (ub.setCell ⟨w.heap.size + 3, 1, none⟩ (.int .i64 r1))) := HX.out.set (p := ⟨w.heap.size + 3, 1, none⟩) lt3.out _
  clear m0 m1
  generalize (ub.setCell ⟨w.heap.size + 3, 1, none⟩ (.int .i64 r1)) = vb at *
  rw [rounds_succ]
  go_upto_region 5 with fail
  have qa : vb.cell? ⟨w.heap.size, 2, none⟩ = some (.int .i64 a2) := BA.out.c 2 rfl
  have qb : vb.cell? ⟨w.heap.size + 1, 2, none⟩ = some (.int .i64 b2) := BB.out.c 2 rfl
  go_region_held3 (fun w' => w'.cell? ⟨w.heap.size, 2, none⟩ = some (.int .i64 a2) ∧ w'.cell? ⟨w.heap.size + 1, 2, none⟩ = some (.int .i64 b2)) (first | (simp [*]; done) | skip) (first | (go_at_call 32; refine (H2.out _ (HX.out.trans (by repeat (first | with_reducible assumption | with_reducible exact Ext.refl _ | with_reducible refine Ext.drew ?_ | with_reducible refine Ext.drewN ?_ _ | with_reducible refine Ext.alloc ?_ _ | with_reducible refine Ext.set ?_ (by first | exact Nat.le_refl _ | (dsimp only; omega) | (simp; done)) _)))).mono ?_; rintro e uc ⟨rfl, xc0⟩; have xc : Ext vb uc := Ext.trans (by repeat (first | with_reducible assumption | with_reducible exact Ext.refl _ | with_reducible refine Ext.drew ?_ | with_reducible refine Ext.drewN ?_ _ | with_reducible refine Ext.alloc ?_ _ | with_reducible refine Ext.set ?_ (by first | exact Nat.le_refl _ | (dsimp only; omega) | (simp; done)) _)) xc0; clear xc0; have ka : uc.cell? ⟨w.heap.size, 2, none⟩ = some (.int .i64 a2) := (BA.out.ext xc).c 2 rfl; have kb : uc.cell? ⟨w.heap.size + 1, 2, none⟩ = some (.int .i64 b2) := (BB.out.ext xc).c 2 rfl))
  have BA : Hid (HV uc w.heap.size [.int .i64 a0, .int .i64 a1, .int .i64 a2]) := BA.out.ext xc
  have BB : Hid (HV uc (w.heap.size + 1) [.int .i64 b0, .int .i64 b1, .int .i64 b2]) := BB.out.ext xc
  have BR : Hid (HV uc (w.heap.size + 2) [.int .i64 0, .int .i64 0, .int .i64 0]) := BR.out.ext xc
  have BM : Hid (HV uc (w.heap.size + 3) [.int .i64 r0, .int .i64 r1, .int .i64 0]) := BM.out.ext xc
  have HX : Hid (Ext w uc) := HX.out.trans xc
  clear qa qb ka kb xc H2
  have m0 : uc.cell? ⟨w.heap.size + 3, 2, none⟩ = some (.int .i64 0) := BM.out.c 2 rfl
  have m1 : uc.frozen? ⟨w.heap.size + 3, 2, none⟩ = false := BM.out.f 2 rfl
  go_wp2_with fail
  have BA : Hid (HV (uc.setCell ⟨w.heap.size + 3, 2, none⟩ (.int .i64 r2)) w.heap.size [.int .i64 a0, .int .i64 a1, .int .i64 a2]) := BA.out.far (by omega)
  have BB : Hid (HV (uc.setCell ⟨w.heap.size + 3, 2, none⟩ (.int .i64 r2)) (w.heap.size + 1) [.int .i64 b0, .int .i64 b1, .int .i64 b2]) := BB.out.far (by omega)
  have BR : Hid (HV (uc.setCell ⟨w.heap.size + 3, 2, none⟩ (.int .i64 r2)) (w.heap.size + 2) [.int .i64 0, .int .i64 0, .int .i64 0]) := BR.out.far (by omega)
  have BM : Hid (HV (uc.setCell ⟨w.heap.size + 3, 2, none⟩ (.int .i64 r2)) (w.heap.size + 3) [.int .i64 r0, .int .i64 r1, .int .i64 r2]) := BM.out.set 2 _
  have HX : Hid (Ext w (uc.setCell ⟨w.heap.size + 3, 2, none⟩ (.int .i64 r2))) := HX.out.set (p := ⟨w.heap.size + 3, 2, none⟩) lt3.out _
  clear m0 m1
  generalize (uc.setCell ⟨w.heap.size + 3, 2, none⟩ (.int .i64 r2)) = vc at *
  rw [rounds_succ]
  obtain ⟨m0, m1, m2⟩ := BM.out.k3
  obtain ⟨y0, y1, y2⟩ := BR.out.k3
  obtain ⟨f0, f1, f2⟩ := BR.out.z3
  go_wp2_with fail
  refine bodyPost_ret (v := .tuple #[.agg #[.int .i64 r0, .int .i64 r1, .int .i64 r2], .int .i64 0]) (by simp [results, Try.results18, go_sem, y0, y1, y2]) rfl ⟨rfl, ?_⟩
  exact Ext.set (Ext.set (Ext.set HX.out lt2.out _) lt2.out _) lt2.out _
end Go.Proofs.Ytbbnbpghhdmhaaa
