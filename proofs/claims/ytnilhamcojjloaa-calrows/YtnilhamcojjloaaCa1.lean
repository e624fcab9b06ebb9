/- cal: Check. -/
import Derived.Test.YtnilhamcojjloaaCa0
import Derived.Deep.RegionHeld
import Derived.Deep.RegionHeld3
import Derived.Deep.Cut
import Derived.Deep.DeepCutAuto
namespace Go.Proofs.Ytnilhamcojjloaa
open Go.RowKit Go.Shelf
theorem cmpOr3 (a b c r : Int) (g : Nat) (w : World) (h : HV w g [.int .i64 a, .int .i64 b, .int .i64 c]) (hr : r = if a ≠ 0 then a else if b ≠ 0 then b else c) :
    Calls Try.prog 30 #[.slice (some ⟨g, 0, none⟩) 3 3] w fun e w' => e = .returned (.int .i64 r) ∧ Ext w w' := by
  refine (cmpOr_any 3 g (fun i => if i = 0 then a else if i = 1 then b else c) w (by omega) (fun i hi => ?_)).mono ?_
  · obtain rfl | rfl | rfl : i = 0 ∨ i = 1 ∨ i = 2 := by omega
    · exact ⟨h.c 0 rfl, h.1⟩
    · exact ⟨h.c 1 rfl, h.1⟩
    · exact ⟨h.c 2 rfl, h.1⟩
  · rintro e w1 ⟨⟨s, rfl, hs⟩, x1⟩
    refine ⟨?_, x1⟩
    have : s = r := by
      rcases hs with ⟨k, hk, h1, h2, rfl⟩ | ⟨h1, rfl⟩
      · obtain rfl | rfl | rfl : k = 0 ∨ k = 1 ∨ k = 2 := by omega
        · have g0 : a ≠ 0 := h2
          rw [hr]; simp_all
        · have g0 : a = 0 := h1 0 (by omega)
          have g1 : b ≠ 0 := h2
          rw [hr]; simp_all
        · have g0 : a = 0 := h1 0 (by omega)
          have g1 : b = 0 := h1 1 (by omega)
          have g2 : c ≠ 0 := h2
          rw [hr]; simp_all
      · have g0 : a = 0 := h1 0 (by omega)
        have g1 : b = 0 := h1 1 (by omega)
        have g2 : c = 0 := h1 2 (by omega)
        rw [hr]; simp_all
    rw [this]
/-- a calibration's cells -/
abbrev calL (b0 b1 b2 h0 h1 h2 rf : Int) (m : Nat → Int) : List Value := [.int .i64 b0, .int .i64 b1, .int .i64 b2, .int .i64 h0, .int .i64 h1, .int .i64 h2, .int .i64 rf, .int .i64 (m 0), .int .i64 (m 1), .int .i64 (m 2), .int .i64 (m 3), .int .i64 (m 4), .int .i64 (m 5), .int .i64 (m 6), .int .i64 (m 7), .int .i64 (m 8)]
/-- a calibration that may be -/
def okC (b0 b1 b2 h0 h1 h2 rf : Int) (m : Nat → Int) : Bool := inn rf (-128) 127 && (ok3 b0 b1 b2 && (ok3 h0 h1 h2 && okM m))
def chkC (b0 b1 b2 h0 h1 h2 rf : Int) (m : Nat → Int) : Int := if okC b0 b1 b2 h0 h1 h2 rf m then 0 else 1
theorem chkC_or (b0 b1 b2 h0 h1 h2 rf : Int) (m : Nat → Int) (h : inn rf (-128) 127 = true) : chkC b0 b1 b2 h0 h1 h2 rf m = if chk3 b0 b1 b2 ≠ 0 then chk3 b0 b1 b2 else if chk3 h0 h1 h2 ≠ 0 then chk3 h0 h1 h2 else chkM m := by
  unfold chkC okC chk3 chkM
  rw [h]
  cases ok3 b0 b1 b2 <;> cases ok3 h0 h1 h2 <;> cases okM m <;> rfl
set_option maxRecDepth 20000 in
set_option maxHeartbeats 8000000 in
theorem cCheck_any (b0 b1 b2 h0 h1 h2 rf : Int) (m : Nat → Int) (w : World) :
    Calls Try.prog 12 #[.agg #[.int .i64 b0, .int .i64 b1, .int .i64 b2, .int .i64 h0, .int .i64 h1, .int .i64 h2, .int .i64 rf, .int .i64 (m 0), .int .i64 (m 1), .int .i64 (m 2), .int .i64 (m 3), .int .i64 (m 4), .int .i64 (m 5), .int .i64 (m 6), .int .i64 (m 7), .int .i64 (m 8)]] w fun e w' => e = .returned (.int .i64 (chkC b0 b1 b2 h0 h1 h2 rf m)) ∧ Ext w w' := by
  have HT : Hid (∀ w, Calls Try.prog 29 #[.int .i64 rf] w fun e w' => e = .returned (.bool (inn rf (-128) 127)) ∧ w' = w) := istemp_any rf
  have HB : Hid (∀ w, Calls Try.prog 31 #[.agg #[.int .i64 b0, .int .i64 b1, .int .i64 b2]] w fun e w' => e = .returned (.int .i64 (chk3 b0 b1 b2)) ∧ Ext w w') := vCheck_any b0 b1 b2
  have HH : Hid (∀ w, Calls Try.prog 31 #[.agg #[.int .i64 h0, .int .i64 h1, .int .i64 h2]] w fun e w' => e = .returned (.int .i64 (chk3 h0 h1 h2)) ∧ Ext w w') := vCheck_any h0 h1 h2
  have HM : Hid (∀ w, Calls Try.prog 32 #[.agg #[.int .i64 (m 0), .int .i64 (m 1), .int .i64 (m 2), .int .i64 (m 3), .int .i64 (m 4), .int .i64 (m 5), .int .i64 (m 6), .int .i64 (m 7), .int .i64 (m 8)]] w fun e w' => e = .returned (.int .i64 (chkM m)) ∧ Ext w w') := checkm_any m
  have HO : Hid (inn rf (-128) 127 = true → ∀ g w', HV w' g [.int .i64 (chk3 b0 b1 b2), .int .i64 (chk3 h0 h1 h2), .int .i64 (chkM m)] → Calls Try.prog 30 #[.slice (some ⟨g, 0, none⟩) 3 3] w' fun e w'' => e = .returned (.int .i64 (chkC b0 b1 b2 h0 h1 h2 rf m)) ∧ Ext w' w'') := fun ht g w' h => cmpOr3 _ _ _ _ g w' h (chkC_or b0 b1 b2 h0 h1 h2 rf m ht)
  have HN : Hid (inn rf (-128) 127 = false → chkC b0 b1 b2 h0 h1 h2 rf m = 1) := fun h => by unfold chkC okC; rw [h]; rfl
  generalize chkC b0 b1 b2 h0 h1 h2 rf m = R at *
  generalize chk3 b0 b1 b2 = c0 at *
  generalize chk3 h0 h1 h2 = c1 at *
  generalize chkM m = c2 at *
  have BB0 : Hid (HV (w.alloc (.cells #[.int .i64 b0, .int .i64 b1, .int .i64 b2, .int .i64 h0, .int .i64 h1, .int .i64 h2, .int .i64 rf, .int .i64 (m 0), .int .i64 (m 1), .int .i64 (m 2), .int .i64 (m 3), .int .i64 (m 4), .int .i64 (m 5), .int .i64 (m 6), .int .i64 (m 7), .int .i64 (m 8)] 27)) w.heap.size [.int .i64 b0, .int .i64 b1, .int .i64 b2, .int .i64 h0, .int .i64 h1, .int .i64 h2, .int .i64 rf, .int .i64 (m 0), .int .i64 (m 1), .int .i64 (m 2), .int .i64 (m 3), .int .i64 (m 4), .int .i64 (m 5), .int .i64 (m 6), .int .i64 (m 7), .int .i64 (m 8)]) := hv_at rfl
  have hx0 : Hid (Ext w (w.alloc (.cells #[.int .i64 b0, .int .i64 b1, .int .i64 b2, .int .i64 h0, .int .i64 h1, .int .i64 h2, .int .i64 rf, .int .i64 (m 0), .int .i64 (m 1), .int .i64 (m 2), .int .i64 (m 3), .int .i64 (m 4), .int .i64 (m 5), .int .i64 (m 6), .int .i64 (m 7), .int .i64 (m 8)] 27))) := (Ext.refl w).alloc _
  cases hp : inn rf (-128) 127
  · rw [hp] at HT
    have e1 := HN.out hp
    subst e1
    clear hp HO HN
    go_enter Try.func12, Try.ntmps12
    go_wp2_with (go_at_call 29; refine (HT.out _).mono ?_; rintro e wx ⟨rfl, hwx⟩; have hwy := hwx.symm; clear hwx; subst hwy)
    go_ret
    exact ⟨rfl, hx0.out⟩
  · rw [hp] at HT
    have HO' : Hid (∀ g w', HV w' g [.int .i64 c0, .int .i64 c1, .int .i64 c2] → Calls Try.prog 30 #[.slice (some ⟨g, 0, none⟩) 3 3] w' fun e w'' => e = .returned (.int .i64 R) ∧ Ext w' w'') := HO.out hp
    clear hp HO HN
    go_enter Try.func12, Try.ntmps12
    go_upto_region 3 with (go_at_call 29; refine (HT.out _).mono ?_; rintro e wx ⟨rfl, hwx⟩; have hwy := hwx.symm; clear hwx; subst hwy)
    generalize (w.alloc (.cells #[.int .i64 b0, .int .i64 b1, .int .i64 b2, .int .i64 h0, .int .i64 h1, .int .i64 h2, .int .i64 rf, .int .i64 (m 0), .int .i64 (m 1), .int .i64 (m 2), .int .i64 (m 3), .int .i64 (m 4), .int .i64 (m 5), .int .i64 (m 6), .int .i64 (m 7), .int .i64 (m 8)] 27)) = wB at *
    obtain ⟨k0, k1, k2, k3, k4, k5, k6, k7, k8, k9, k10, k11, k12, k13, k14, k15⟩ := BB0.out.k16
    have R0 : wB.rangeAt w.heap.size 7 [.int .i64 (m 0), .int .i64 (m 1), .int .i64 (m 2), .int .i64 (m 3), .int .i64 (m 4), .int .i64 (m 5), .int .i64 (m 6), .int .i64 (m 7), .int .i64 (m 8)] := BB0.out.rng 7
    have hu9 : Try.prog.underlying 25 = some (.array 9 2) := by kernel_rfl
    have hs9 : (Try.prog.info? 25).map (·.size) = some ([.int .i64 (m 0), .int .i64 (m 1), .int .i64 (m 2), .int .i64 (m 3), .int .i64 (m 4), .int .i64 (m 5), .int .i64 (m 6), .int .i64 (m 7), .int .i64 (m 8)] : List Value).length := by kernel_rfl
    go_region_held3 (fun w' => w'.cell? ⟨w.heap.size, 0, none⟩ = some (.int .i64 b0) ∧ w'.cell? ⟨w.heap.size, 1, none⟩ = some (.int .i64 b1) ∧ w'.cell? ⟨w.heap.size, 2, none⟩ = some (.int .i64 b2) ∧ w'.cell? ⟨w.heap.size, 3, none⟩ = some (.int .i64 h0) ∧ w'.cell? ⟨w.heap.size, 4, none⟩ = some (.int .i64 h1) ∧ w'.cell? ⟨w.heap.size, 5, none⟩ = some (.int .i64 h2) ∧ w'.rangeAt w.heap.size 7 [.int .i64 (m 0), .int .i64 (m 1), .int .i64 (m 2), .int .i64 (m 3), .int .i64 (m 4), .int .i64 (m 5), .int .i64 (m 6), .int .i64 (m 7), .int .i64 (m 8)]) (first | (simp [*, World.cell?_alloc_some, World.rangeAt_alloc]; done) | skip) (first | (go_at_call_of 31 (Value.agg #[.int .i64 b0, .int .i64 b1, .int .i64 b2]); refine (HB.out _).mono ?_; rintro e w1 ⟨rfl, x1⟩; have Y1 : Ext wB w1 := Ext.trans (by repeat (first | with_reducible assumption | with_reducible exact Ext.refl _ | with_reducible refine Ext.drew ?_ | with_reducible refine Ext.drewN ?_ _ | with_reducible refine Ext.alloc ?_ _ | with_reducible refine Ext.set ?_ (by first | exact Nat.le_refl _ | (dsimp only; omega) | (simp; done)) _)) x1; have R1 : w1.rangeAt w.heap.size 7 [.int .i64 (m 0), .int .i64 (m 1), .int .i64 (m 2), .int .i64 (m 3), .int .i64 (m 4), .int .i64 (m 5), .int .i64 (m 6), .int .i64 (m 7), .int .i64 (m 8)] := (BB0.out.ext Y1).rng 7; obtain ⟨s1_0, s1_1, s1_2, s1_3, s1_4, s1_5, s1_6, s1_7, s1_8, s1_9, s1_10, s1_11, s1_12, s1_13, s1_14, s1_15⟩ := (BB0.out.ext Y1).k16) | (go_at_call_of 31 (Value.agg #[.int .i64 h0, .int .i64 h1, .int .i64 h2]); refine (HH.out _).mono ?_; rintro e w2 ⟨rfl, x2⟩; have Y2 : Ext wB w2 := Ext.trans (by repeat (first | with_reducible assumption | with_reducible exact Ext.refl _ | with_reducible refine Ext.drew ?_ | with_reducible refine Ext.drewN ?_ _ | with_reducible refine Ext.alloc ?_ _ | with_reducible refine Ext.set ?_ (by first | exact Nat.le_refl _ | (dsimp only; omega) | (simp; done)) _)) x2; have R2 : w2.rangeAt w.heap.size 7 [.int .i64 (m 0), .int .i64 (m 1), .int .i64 (m 2), .int .i64 (m 3), .int .i64 (m 4), .int .i64 (m 5), .int .i64 (m 6), .int .i64 (m 7), .int .i64 (m 8)] := (BB0.out.ext Y2).rng 7; obtain ⟨s2_0, s2_1, s2_2, s2_3, s2_4, s2_5, s2_6, s2_7, s2_8, s2_9, s2_10, s2_11, s2_12, s2_13, s2_14, s2_15⟩ := (BB0.out.ext Y2).k16) | (go_at_call 32; refine (HM.out _).mono ?_; rintro e w3 ⟨rfl, x3⟩; have Y3 : Ext wB w3 := Ext.trans (by repeat (first | with_reducible assumption | with_reducible exact Ext.refl _ | with_reducible refine Ext.drew ?_ | with_reducible refine Ext.drewN ?_ _ | with_reducible refine Ext.alloc ?_ _ | with_reducible refine Ext.set ?_ (by first | exact Nat.le_refl _ | (dsimp only; omega) | (simp; done)) _)) x3; have R3 : w3.rangeAt w.heap.size 7 [.int .i64 (m 0), .int .i64 (m 1), .int .i64 (m 2), .int .i64 (m 3), .int .i64 (m 4), .int .i64 (m 5), .int .i64 (m 6), .int .i64 (m 7), .int .i64 (m 8)] := (BB0.out.ext Y3).rng 7; obtain ⟨s3_0, s3_1, s3_2, s3_3, s3_4, s3_5, s3_6, s3_7, s3_8, s3_9, s3_10, s3_11, s3_12, s3_13, s3_14, s3_15⟩ := (BB0.out.ext Y3).k16) | (go_at_call 30; refine (HO'.out _ _ (hv_at rfl)).mono ?_; rintro e w4 ⟨rfl, x4⟩; have Y4 : Ext wB w4 := Ext.trans (by repeat (first | with_reducible assumption | with_reducible exact Ext.refl _ | with_reducible refine Ext.drew ?_ | with_reducible refine Ext.drewN ?_ _ | with_reducible refine Ext.alloc ?_ _ | with_reducible refine Ext.set ?_ (by first | exact Nat.le_refl _ | (dsimp only; omega) | (simp; done)) _)) x4; have R4 : w4.rangeAt w.heap.size 7 [.int .i64 (m 0), .int .i64 (m 1), .int .i64 (m 2), .int .i64 (m 3), .int .i64 (m 4), .int .i64 (m 5), .int .i64 (m 6), .int .i64 (m 7), .int .i64 (m 8)] := (BB0.out.ext Y4).rng 7; obtain ⟨s4_0, s4_1, s4_2, s4_3, s4_4, s4_5, s4_6, s4_7, s4_8, s4_9, s4_10, s4_11, s4_12, s4_13, s4_14, s4_15⟩ := (BB0.out.ext Y4).k16))
    all_goals
      have X4 : Ext w w4 := hx0.out.trans Y4
      go_wp2_with fail
      go_ret
      exact ⟨rfl, X4⟩
end Go.Proofs.Ytnilhamcojjloaa
