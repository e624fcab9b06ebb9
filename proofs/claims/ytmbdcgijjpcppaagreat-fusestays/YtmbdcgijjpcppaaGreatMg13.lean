/- wide: sums of four products; quat: squares, product. cmp.Or. quat: check, Check. -/
import Derived.Test.YtmbdcgijjpcppaaGreatWSm
import Derived.Test.YtmbdcgijjpcppaaGreatWSwm
import Derived.Test.YtmbdcgijjpcppaaGreatMg12
import Derived.Test.YtmbdcgijjpcppaaGreatMg0
import Derived.Test.YtmbdcgijjpcppaaGreatLeafm
import Derived.Test.YtmbdcgijjpcppaaGreatQ1m
import Derived.Deep.RegionHeld
namespace Go.Proofs.YtmbdcgijjpcppaaGreat
open Go.RowKit Go.Shelf

theorem rng64 {a : Int} (h : okW a = true) : -9223372036854775808 ≤ a ∧ a ≤ 9223372036854775807 := by
  unfold okW at h; simp at h; omega
theorem nrng64 {a : Int} (h : okW a = true) : -9223372036854775808 ≤ -a ∧ -a ≤ 9223372036854775807 := by
  unfold okW at h; simp at h; omega
theorem neg64 {a : Int} (h : okW a = true) : wrap64 (-a) = -a := by
  unfold okW at h; simp at h; unfold wrap64; omega
/-- the product's four numbers -/
def qw (a b c d x y z t : Int) : Int := a * x - b * y - c * z - d * t
def qx (a b c d x y z t : Int) : Int := a * y + b * x + c * t - d * z
def qy (a b c d x y z t : Int) : Int := a * z - b * t + c * x + d * y
def qz (a b c d x y z t : Int) : Int := a * t + b * z - c * y + d * x

theorem sum4_any (A B : Nat) (x0 x1 x2 x3 y0 y1 y2 y3 : Int) (w : World) (hA : H4 w A (.int .i64 x0) (.int .i64 x1) (.int .i64 x2) (.int .i64 x3)) (hB : H4 w B (.int .i64 y0) (.int .i64 y1) (.int .i64 y2) (.int .i64 y3))
    (hx0 : -9223372036854775808 ≤ x0 ∧ x0 ≤ 9223372036854775807) (hx1 : -9223372036854775808 ≤ x1 ∧ x1 ≤ 9223372036854775807) (hx2 : -9223372036854775808 ≤ x2 ∧ x2 ≤ 9223372036854775807) (hx3 : -9223372036854775808 ≤ x3 ∧ x3 ≤ 9223372036854775807) (hy0 : -9223372036854775808 ≤ y0 ∧ y0 ≤ 9223372036854775807) (hy1 : -9223372036854775808 ≤ y1 ∧ y1 ≤ 9223372036854775807) (hy2 : -9223372036854775808 ≤ y2 ∧ y2 ≤ 9223372036854775807) (hy3 : -9223372036854775808 ≤ y3 ∧ y3 ≤ 9223372036854775807) :
    Calls Tryz.prog 167 #[.slice (some ⟨A, 0, none⟩) 4 4, .slice (some ⟨B, 0, none⟩) 4 4, .func (.func 131) #[] #[]] w fun e w' => (∃ r, e = .returned r ∧ IsW r (x0 * y0 + x1 * y1 + x2 * y2 + x3 * y3)) ∧ Ext w w' := by
  obtain ⟨c0, c1, c2, c3, f0, f1, f2, f3, hb⟩ := hA
  obtain ⟨d0, d1, d2, d3, g0, g1, g2, g3, hc⟩ := hB
  have h := sum64_raw 4 A B (fun i => if i = 0 then x0 else if i = 1 then x1 else if i = 2 then x2 else x3) (fun i => if i = 0 then y0 else if i = 1 then y1 else if i = 2 then y2 else y3) (fun i => if i = 0 then x0 * y0 else if i = 1 then x1 * y1 else if i = 2 then x2 * y2 else x3 * y3) w (by omega) (fun i hi => by
    obtain rfl | rfl | rfl | rfl : i = 0 ∨ i = 1 ∨ i = 2 ∨ i = 3 := by omega
    · exact ⟨c0, hb⟩
    · exact ⟨c1, hb⟩
    · exact ⟨c2, hb⟩
    · exact ⟨c3, hb⟩) (fun i hi => by
    obtain rfl | rfl | rfl | rfl : i = 0 ∨ i = 1 ∨ i = 2 ∨ i = 3 := by omega
    · exact ⟨d0, hc⟩
    · exact ⟨d1, hc⟩
    · exact ⟨d2, hc⟩
    · exact ⟨d3, hc⟩) (fun i w' hi => by
    obtain rfl | rfl | rfl | rfl : i = 0 ∨ i = 1 ∨ i = 2 ∨ i = 3 := by omega
    · exact productw_any x0 y0 w' hx0.1 hx0.2 hy0.1 hy0.2
    · exact productw_any x1 y1 w' hx1.1 hx1.2 hy1.1 hy1.2
    · exact productw_any x2 y2 w' hx2.1 hx2.2 hy2.1 hy2.2
    · exact productw_any x3 y3 w' hx3.1 hx3.2 hy3.1 hy3.2) (fun u v p q w' hu hv => plus_any p q u v w' hu hv)
  have e : sumTo (fun i => if i = 0 then x0 * y0 else if i = 1 then x1 * y1 else if i = 2 then x2 * y2 else x3 * y3) 4 = x0 * y0 + x1 * y1 + x2 * y2 + x3 * y3 := by
    simp [sumTo]
  rw [e] at h
  exact h

theorem sumw4_any (A B : Nat) (a0 a1 a2 a3 a4 a5 a6 a7 a8 a9 a10 a11 z0 z1 z2 z3 y0 y1 y2 y3 : Int) (w : World) (hA : H12 w A (.int .u64 a0) (.int .u64 a1) (.int .u64 a2) (.int .u64 a3) (.int .u64 a4) (.int .u64 a5) (.int .u64 a6) (.int .u64 a7) (.int .u64 a8) (.int .u64 a9) (.int .u64 a10) (.int .u64 a11)) (hB : H4 w B (.int .i64 y0) (.int .i64 y1) (.int .i64 y2) (.int .i64 y3))
    (i0 : IsW (.agg #[.int .u64 a0, .int .u64 a1, .int .u64 a2]) z0) (i1 : IsW (.agg #[.int .u64 a3, .int .u64 a4, .int .u64 a5]) z1) (i2 : IsW (.agg #[.int .u64 a6, .int .u64 a7, .int .u64 a8]) z2) (i3 : IsW (.agg #[.int .u64 a9, .int .u64 a10, .int .u64 a11]) z3) (hy0 : -9223372036854775808 ≤ y0 ∧ y0 ≤ 9223372036854775807) (hy1 : -9223372036854775808 ≤ y1 ∧ y1 ≤ 9223372036854775807) (hy2 : -9223372036854775808 ≤ y2 ∧ y2 ≤ 9223372036854775807) (hy3 : -9223372036854775808 ≤ y3 ∧ y3 ≤ 9223372036854775807) :
    Calls Tryz.prog 191 #[.slice (some ⟨A, 0, none⟩) 4 4, .slice (some ⟨B, 0, none⟩) 4 4, .func (.func 168) #[] #[]] w fun e w' => (∃ r, e = .returned r ∧ IsW r (z0 * y0 + z1 * y1 + z2 * y2 + z3 * y3)) ∧ Ext w w' := by
  obtain ⟨c0, c1, c2, c3, c4, c5, c6, c7, c8, c9, c10, c11, f0, f1, f2, f3, f4, f5, f6, f7, f8, f9, f10, f11, hb⟩ := hA
  obtain ⟨d0, d1, d2, d3, g0, g1, g2, g3, hc⟩ := hB
  have h := sumw_raw 4 A B (fun i => if i = 0 then a0 else if i = 1 then a3 else if i = 2 then a6 else a9) (fun i => if i = 0 then a1 else if i = 1 then a4 else if i = 2 then a7 else a10) (fun i => if i = 0 then a2 else if i = 1 then a5 else if i = 2 then a8 else a11) (fun i => if i = 0 then y0 else if i = 1 then y1 else if i = 2 then y2 else y3) (fun i => if i = 0 then z0 * y0 else if i = 1 then z1 * y1 else if i = 2 then z2 * y2 else z3 * y3) w (by omega) (fun i hi => by
    obtain rfl | rfl | rfl | rfl : i = 0 ∨ i = 1 ∨ i = 2 ∨ i = 3 := by omega
    · exact ⟨c0, c1, c2, hb⟩
    · exact ⟨c3, c4, c5, hb⟩
    · exact ⟨c6, c7, c8, hb⟩
    · exact ⟨c9, c10, c11, hb⟩) (fun i hi => by
    obtain rfl | rfl | rfl | rfl : i = 0 ∨ i = 1 ∨ i = 2 ∨ i = 3 := by omega
    · exact ⟨d0, hc⟩
    · exact ⟨d1, hc⟩
    · exact ⟨d2, hc⟩
    · exact ⟨d3, hc⟩) (fun i w' hi => by
    obtain rfl | rfl | rfl | rfl : i = 0 ∨ i = 1 ∨ i = 2 ∨ i = 3 := by omega
    · exact byw_any z0 y0 _ w' i0 hy0.1 hy0.2
    · exact byw_any z1 y1 _ w' i1 hy1.1 hy1.2
    · exact byw_any z2 y2 _ w' i2 hy2.1 hy2.2
    · exact byw_any z3 y3 _ w' i3 hy3.1 hy3.2) (fun u v p q w' hu hv => plus_any p q u v w' hu hv)
  have e : sumTo (fun i => if i = 0 then z0 * y0 else if i = 1 then z1 * y1 else if i = 2 then z2 * y2 else z3 * y3) 4 = z0 * y0 + z1 * y1 + z2 * y2 + z3 * y3 := by
    simp [sumTo]
  rw [e] at h
  exact h

set_option maxRecDepth 20000 in
set_option maxHeartbeats 4000000 in
theorem squares_raw (a b c d z : Int) (w : World)
    (HS : Hid (∀ A w', H4 w' A (.int .i64 a) (.int .i64 b) (.int .i64 c) (.int .i64 d) → Calls Tryz.prog 167 #[.slice (some ⟨A, 0, none⟩) 4 4, .slice (some ⟨A, 0, none⟩) 4 4, .func (.func 131) #[] #[]] w' fun e w'' => (∃ r, e = .returned r ∧ IsW r z) ∧ Ext w' w'')) :
    Calls Tryz.prog 136 #[.agg #[.int .i64 a, .int .i64 b, .int .i64 c, .int .i64 d]] w fun e w' => (∃ r, e = .returned r ∧ IsW r z) ∧ Ext w w' := by
  go_enter Tryz.func136, Tryz.ntmps136
  go_wp2_with fail
  go_region_with (go_at_call 167; refine (HS.out _ _ (H4.drew (H4.alloc (h4_at rfl) _))).mono ?_; rintro e w1 ⟨⟨u, rfl, m0, m1, m2, rfl, hr⟩, x1⟩; have HRr : Hid _ := hr; clear hr; obtain ⟨c0, c1, c2, c3, c4, c5, c6⟩ : H3 w1 (w.heap.size + 1) (.int .u64 0) (.int .u64 0) (.int .u64 0) := (H3.drew (h3_at (by simp))).ext x1; have X1 : Ext w w1 := Ext.trans (by repeat (first | with_reducible assumption | with_reducible exact Ext.refl _ | with_reducible refine Ext.drew ?_ | with_reducible refine Ext.drewN ?_ _ | with_reducible refine Ext.alloc ?_ _ | with_reducible refine Ext.set ?_ (by first | exact Nat.le_refl _ | (dsimp only; omega) | (simp; done)) _)) x1; clear x1)
  all_goals
    go_wp2_with fail
    exact bodyPost_ret (v := .agg #[.int .u64 m0, .int .u64 m1, .int .u64 m2]) (by simp [results, Tryz.results136, go_sem, c0, c1, c2]) rfl ⟨⟨_, rfl, _, _, _, rfl, HRr.out⟩, by repeat (first | with_reducible assumption | with_reducible exact Ext.refl _ | with_reducible refine Ext.drew ?_ | with_reducible refine Ext.drewN ?_ _ | with_reducible refine Ext.alloc ?_ _ | with_reducible refine Ext.set ?_ (by first | exact Nat.le_refl _ | (dsimp only; omega) | (simp; done)) _)⟩

def sq4 (a b c d : Int) : Nat := a.natAbs * a.natAbs + b.natAbs * b.natAbs + c.natAbs * c.natAbs + d.natAbs * d.natAbs
theorem sq4_int (a b c d : Int) : a * a + b * b + c * c + d * d = ((sq4 a b c d : Nat) : Int) := by
  unfold sq4
  simp only [Int.natCast_add, Int.natCast_mul, Int.natAbs_mul_self']
theorem squares_any (a b c d : Int) (w : World) (ha : okW a = true) (hb : okW b = true) (hc : okW c = true) (hd : okW d = true) :
    Calls Tryz.prog 136 #[.agg #[.int .i64 a, .int .i64 b, .int .i64 c, .int .i64 d]] w fun e w' => (∃ r, e = .returned r ∧ IsW r ((sq4 a b c d : Nat) : Int)) ∧ Ext w w' := by
  rw [← sq4_int]
  exact squares_raw a b c d _ w (fun A w' h => sum4_any A A a b c d a b c d w' h h (rng64 ha) (rng64 hb) (rng64 hc) (rng64 hd) (rng64 ha) (rng64 hb) (rng64 hc) (rng64 hd))

theorem product64_any (a b c d x y z t : Int) (w : World) (ha : okW a = true) (hb : okW b = true) (hc : okW c = true) (hd : okW d = true) (hx : okW x = true) (hy : okW y = true) (hz : okW z = true) (ht : okW t = true) :
    Calls Tryz.prog 130 #[.agg #[.int .i64 a, .int .i64 b, .int .i64 c, .int .i64 d], .agg #[.int .i64 x, .int .i64 y, .int .i64 z, .int .i64 t], .func (.func 131) #[] #[]] w fun e w' => (∃ r, e = .returned r ∧ IsF r (qw a b c d x y z t) (qx a b c d x y z t) (qy a b c d x y z t) (qz a b c d x y z t)) ∧ Ext w w' := by
  have R := rows_any a b c d
  rw [neg64 hb, neg64 hc, neg64 hd] at R
  have ra := rng64 ha; have rb := rng64 hb; have rc := rng64 hc; have rd := rng64 hd; have rx := rng64 hx; have ry := rng64 hy; have rz := rng64 hz; have rt := rng64 ht
  have nb := nrng64 hb; have nc := nrng64 hc; have nd := nrng64 hd
  refine productw_raw a b c d x y z t _ _ _ _ _ _ _ _ _ _ _ _ _ _ _ _ _ _ _ _ w R ?_ ?_ ?_ ?_
  · intro A B w' h1 h2
    have h := sum4_any A B x y z t a (-b) (-c) (-d) w' h1 h2 rx ry rz rt ra nb nc nd
    rw [show x * a + y * -b + z * -c + t * -d = qw a b c d x y z t by unfold qw; grind] at h
    exact h
  · intro A B w' h1 h2
    have h := sum4_any A B x y z t b a (-d) c w' h1 h2 rx ry rz rt rb ra nd rc
    rw [show x * b + y * a + z * -d + t * c = qx a b c d x y z t by unfold qx; grind] at h
    exact h
  · intro A B w' h1 h2
    have h := sum4_any A B x y z t c d a (-b) w' h1 h2 rx ry rz rt rc rd ra nb
    rw [show x * c + y * d + z * a + t * -b = qy a b c d x y z t by unfold qy; grind] at h
    exact h
  · intro A B w' h1 h2
    have h := sum4_any A B x y z t d (-c) b a w' h1 h2 rx ry rz rt rd nc rb ra
    rw [show x * d + y * -c + z * b + t * a = qz a b c d x y z t by unfold qz; grind] at h
    exact h

theorem productW_any (a b c d x y z t : Int) (v : Value) (w : World) (ha : okW a = true) (hb : okW b = true) (hc : okW c = true) (hd : okW d = true) (hv : IsF v x y z t) :
    Calls Tryz.prog 170 #[.agg #[.int .i64 a, .int .i64 b, .int .i64 c, .int .i64 d], v, .func (.func 168) #[] #[]] w fun e w' => (∃ r, e = .returned r ∧ IsF r (qw a b c d x y z t) (qx a b c d x y z t) (qy a b c d x y z t) (qz a b c d x y z t)) ∧ Ext w w' := by
  have R := rows_any a b c d
  rw [neg64 hb, neg64 hc, neg64 hd] at R
  have ra := rng64 ha; have rb := rng64 hb; have rc := rng64 hc; have rd := rng64 hd
  have nb := nrng64 hb; have nc := nrng64 hc; have nd := nrng64 hd
  obtain ⟨l0, l1, l2, l3, l4, l5, l6, l7, l8, l9, l10, l11, rfl, i0, i1, i2, i3⟩ := hv
  refine productx_raw a b c d _ _ _ _ _ _ _ _ _ _ _ _ _ _ _ _ _ _ _ _ _ _ _ _ _ _ _ _ _ _ _ _ w R ?_ ?_ ?_ ?_
  · intro A B w' h1 h2
    have h := sumw4_any A B _ _ _ _ _ _ _ _ _ _ _ _ x y z t a (-b) (-c) (-d) w' h1 h2 i0 i1 i2 i3 ra nb nc nd
    rw [show x * a + y * -b + z * -c + t * -d = qw a b c d x y z t by unfold qw; grind] at h
    exact h
  · intro A B w' h1 h2
    have h := sumw4_any A B _ _ _ _ _ _ _ _ _ _ _ _ x y z t b a (-d) c w' h1 h2 i0 i1 i2 i3 rb ra nd rc
    rw [show x * b + y * a + z * -d + t * c = qx a b c d x y z t by unfold qx; grind] at h
    exact h
  · intro A B w' h1 h2
    have h := sumw4_any A B _ _ _ _ _ _ _ _ _ _ _ _ x y z t c d a (-b) w' h1 h2 i0 i1 i2 i3 rc rd ra nb
    rw [show x * c + y * d + z * a + t * -b = qy a b c d x y z t by unfold qy; grind] at h
    exact h
  · intro A B w' h1 h2
    have h := sumw4_any A B _ _ _ _ _ _ _ _ _ _ _ _ x y z t d (-c) b a w' h1 h2 i0 i1 i2 i3 rd nc rb ra
    rw [show x * d + y * -c + z * b + t * a = qz a b c d x y z t by unfold qz; grind] at h
    exact h
end Go.Proofs.YtmbdcgijjpcppaaGreat

namespace Go.Proofs.YtmbdcgijjpcppaaGreat
open Go.RowKit Go.Shelf

set_option maxRecDepth 20000 in
set_option maxHeartbeats 2000000 in
theorem cmpOr_any (n B : Nat) (E : Nat → Int) (w : World) (hn : n ≤ 4) (HB : Hid (∀ i, i < n → w.cell? ⟨B, i, none⟩ = some (.int .i64 (E i)) ∧ B < w.heap.size)) :
    Calls Tryz.prog 52 #[.slice (some ⟨B, 0, none⟩) n n] w fun e w' => (∃ r : Int, e = .returned (.int .i64 r) ∧ ((∃ k, k < n ∧ (∀ i, i < k → E i = 0) ∧ E k ≠ 0 ∧ r = E k) ∨ ((∀ i, i < n → E i = 0) ∧ r = 0))) ∧ Ext w w' := by
  go_enter Tryz.func52, Tryz.ntmps52
  go_wp2_with fail
  go_loopw [8] (fun i wr => ∃ k : Nat, k ≤ n ∧ i = .int .i64 (k : Int) ∧ Hid (∀ i, i < k → E i = 0) ∧ Ext w wr) (fun i _ => n - (intOf i).toNat)
  case atStart => exact ⟨0, by omega, rfl, fun i hi => by omega, Ext.refl _⟩
  case round =>
    obtain ⟨k, hk, rfl, hE, hx⟩ := hrel
    by_cases hlt : k < n
    · have kx : (k : Int) < (n : Int) := by omega
      obtain ⟨hcy, hay⟩ := HB.out k hlt
      have hcy := ((hx.lay).1 B k hay).trans hcy
      by_cases h0 : E k = 0
      · have H1 : Hid (∀ i, i < k + 1 → E i = 0) := fun i hi => by
          rcases Nat.lt_or_ge i k with h | h
          · exact hE.out i h
          · obtain rfl : i = k := by omega
            exact h0
        rw [h0] at hcy
        clear hE HB
        go_wp2_with fail
        go_roundw
        case rel => exact ⟨k + 1, by omega, by go_num, H1, hx⟩
        case measure => simp [intOf]; omega
      · have h1 : (E k != 0) = true := by simp [h0]
        have H1 : Hid (∃ k, k < n ∧ (∀ i, i < k → E i = 0) ∧ E k ≠ 0 ∧ E k = E k) := ⟨k, hlt, hE.out, h0, rfl⟩
        have H2 : Hid (∃ j, j < n ∧ (∀ i, i < j → E i = 0) ∧ E j ≠ 0 ∧ E k = E j) := ⟨k, hlt, hE.out, h0, rfl⟩
        clear hE HB H1
        generalize E k = x at *
        go_wp2_with fail
        go_ret
        exact ⟨⟨x, rfl, Or.inl H2.out⟩, hx⟩
    · have hkn : k = n := by omega
      subst hkn
      have H2 : Hid (∀ i, i < k → E i = 0) := hE
      clear HB hE
      go_wp2_with fail
      go_ret
      exact ⟨⟨0, rfl, Or.inr ⟨H2.out, rfl⟩⟩, hx⟩

theorem cmpOr4 (a b c d r : Int) (g : Nat) (w : World) (h : H4 w g (.int .i64 a) (.int .i64 b) (.int .i64 c) (.int .i64 d)) (hr : r = if a ≠ 0 then a else if b ≠ 0 then b else if c ≠ 0 then c else d) :
    Calls Tryz.prog 52 #[.slice (some ⟨g, 0, none⟩) 4 4] w fun e w' => e = .returned (.int .i64 r) ∧ Ext w w' := by
  obtain ⟨c0, c1, c2, c3, f0, f1, f2, f3, hb⟩ := h
  refine (cmpOr_any 4 g (fun i => if i = 0 then a else if i = 1 then b else if i = 2 then c else d) w (by omega) (fun i hi => ?_)).mono ?_
  · obtain rfl | rfl | rfl | rfl : i = 0 ∨ i = 1 ∨ i = 2 ∨ i = 3 := by omega
    · exact ⟨c0, hb⟩
    · exact ⟨c1, hb⟩
    · exact ⟨c2, hb⟩
    · exact ⟨c3, hb⟩
  · rintro e w1 ⟨⟨s, rfl, hs⟩, x1⟩
    refine ⟨?_, x1⟩
    have : s = r := by
      rcases hs with ⟨k, hk, h1, h2, rfl⟩ | ⟨h1, rfl⟩
      · obtain rfl | rfl | rfl | rfl : k = 0 ∨ k = 1 ∨ k = 2 ∨ k = 3 := by omega
        · have g0 : a ≠ 0 := h2
          rw [hr]; simp_all
        · have g0 : a = 0 := h1 0 (by omega)
          have g1 : b ≠ 0 := h2
          rw [hr]; simp_all
        · have g0 : a = 0 := h1 0 (by omega)
          have g1 : b = 0 := h1 1 (by omega)
          have g2 : c ≠ 0 := h2
          rw [hr]; simp_all
        · have g0 : a = 0 := h1 0 (by omega)
          have g1 : b = 0 := h1 1 (by omega)
          have g2 : c = 0 := h1 2 (by omega)
          rw [hr]; simp_all
      · have g0 : a = 0 := h1 0 (by omega)
        have g1 : b = 0 := h1 1 (by omega)
        have g2 : c = 0 := h1 2 (by omega)
        have g3 : d = 0 := h1 3 (by omega)
        rw [hr]; simp_all
    rw [this]

theorem cmpOr2 (a b r : Int) (g : Nat) (w : World) (h : H2 w g (.int .i64 a) (.int .i64 b)) (hr : r = if a ≠ 0 then a else b) :
    Calls Tryz.prog 52 #[.slice (some ⟨g, 0, none⟩) 2 2] w fun e w' => e = .returned (.int .i64 r) ∧ Ext w w' := by
  obtain ⟨c0, c1, f0, f1, hb⟩ := h
  refine (cmpOr_any 2 g (fun i => if i = 0 then a else b) w (by omega) (fun i hi => ?_)).mono ?_
  · obtain rfl | rfl : i = 0 ∨ i = 1 := by omega
    · exact ⟨c0, hb⟩
    · exact ⟨c1, hb⟩
  · rintro e w1 ⟨⟨s, rfl, hs⟩, x1⟩
    refine ⟨?_, x1⟩
    have : s = r := by
      rcases hs with ⟨k, hk, h1, h2, rfl⟩ | ⟨h1, rfl⟩
      · obtain rfl | rfl : k = 0 ∨ k = 1 := by omega
        · have g0 : a ≠ 0 := h2
          rw [hr]; simp_all
        · have g0 : a = 0 := h1 0 (by omega)
          rw [hr]; simp_all
      · have g0 : a = 0 := h1 0 (by omega)
        have g3 : b = 0 := h1 1 (by omega)
        rw [hr]; simp_all
    rw [this]

end Go.Proofs.YtmbdcgijjpcppaaGreat

namespace Go.Proofs.YtmbdcgijjpcppaaGreat
open Go.RowKit Go.Shelf

theorem chk4_or (a b c d : Int) : chk4 a b c d = if chk a ≠ 0 then chk a else if chk b ≠ 0 then chk b else if chk c ≠ 0 then chk c else chk d := by
  unfold chk4 ok4 chk
  cases okW a <;> cases okW b <;> cases okW c <;> cases okW d <;> rfl

set_option maxRecDepth 20000 in
set_option maxHeartbeats 4000000 in
theorem qcheck_any (a b c d : Int) (w : World) :
    Calls Tryz.prog 133 #[.agg #[.int .i64 a, .int .i64 b, .int .i64 c, .int .i64 d]] w fun e w' => e = .returned (.int .i64 (chk4 a b c d)) ∧ Ext w w' := by
  have HC : Hid (∀ v w', Calls Tryz.prog 122 #[.int .i64 v] w' fun e w'' => e = .returned (.int .i64 (chk v)) ∧ w'' = w') := check_any
  have HO : Hid (∀ g w', H4 w' g (.int .i64 (chk a)) (.int .i64 (chk b)) (.int .i64 (chk c)) (.int .i64 (chk d)) → Calls Tryz.prog 52 #[.slice (some ⟨g, 0, none⟩) 4 4] w' fun e w'' => e = .returned (.int .i64 (chk4 a b c d)) ∧ Ext w' w'') := fun g w' h => cmpOr4 _ _ _ _ _ g w' h (chk4_or a b c d)
  generalize chk4 a b c d = R at *
  go_enter Tryz.func133, Tryz.ntmps133
  go_wp2_with fail
  have BB : Hid (H4 (w.alloc (.cells #[.int .i64 a, .int .i64 b, .int .i64 c, .int .i64 d] 132)) w.heap.size (.int .i64 a) (.int .i64 b) (.int .i64 c) (.int .i64 d)) := h4_at rfl
  go_region_held (fun w' => w'.cell? ⟨w.heap.size, 0, none⟩ = some (.int .i64 a) ∧ w'.cell? ⟨w.heap.size, 1, none⟩ = some (.int .i64 b) ∧ w'.cell? ⟨w.heap.size, 2, none⟩ = some (.int .i64 c) ∧ w'.cell? ⟨w.heap.size, 3, none⟩ = some (.int .i64 d)) (first | (go_keep; done) | skip) (first | (go_at_call 122; refine (HC.out _ _).mono ?_; rintro e wx ⟨rfl, hwx⟩; have hwy := hwx.symm; clear hwx; subst hwy) | (go_at_call 52; refine (HO.out _ _ (H4.drew (h4_at (by simp)))).mono ?_; rintro e w1 ⟨rfl, x1⟩; have Y1 : Ext (w.alloc (.cells #[.int .i64 a, .int .i64 b, .int .i64 c, .int .i64 d] 132)) w1 := Ext.trans (by repeat (first | with_reducible assumption | with_reducible exact Ext.refl _ | with_reducible refine Ext.drew ?_ | with_reducible refine Ext.drewN ?_ _ | with_reducible refine Ext.alloc ?_ _ | with_reducible refine Ext.set ?_ (by first | exact Nat.le_refl _ | (dsimp only; omega) | (simp; done)) _)) x1; obtain ⟨s0, s1, s2, s3, s4, s5, s6, s7, s8⟩ := BB.out.ext Y1))
  all_goals
    have X1 : Ext w w1 := Ext.trans (by repeat (first | with_reducible assumption | with_reducible exact Ext.refl _ | with_reducible refine Ext.drew ?_ | with_reducible refine Ext.drewN ?_ _ | with_reducible refine Ext.alloc ?_ _ | with_reducible refine Ext.set ?_ (by first | exact Nat.le_refl _ | (dsimp only; omega) | (simp; done)) _)) x1
    go_wp2_with fail
    go_ret
    exact ⟨rfl, X1⟩

set_option maxRecDepth 20000 in
set_option maxHeartbeats 4000000 in
theorem qCheck_any (a b c d : Int) (w : World) :
    Calls Tryz.prog 103 #[.agg #[.int .i64 a, .int .i64 b, .int .i64 c, .int .i64 d]] w fun e w' => e = .returned (.int .i64 (chk4 a b c d)) ∧ Ext w w' := by
  have HC : Hid _ := qcheck_any a b c d
  have HF : Hid _ := qof_any a b c d
  go_enter Tryz.func103, Tryz.ntmps103
  go_wp2_with fail
  refine (HF.out _).mono ?_
  rintro e w1 ⟨rfl, x1⟩
  go_wp2_with fail
  refine (HC.out _).mono ?_
  rintro e w2 ⟨rfl, x2⟩
  have X2 : Ext w w2 := (Ext.trans (by repeat (first | with_reducible assumption | with_reducible exact Ext.refl _ | with_reducible refine Ext.drew ?_ | with_reducible refine Ext.drewN ?_ _ | with_reducible refine Ext.alloc ?_ _ | with_reducible refine Ext.set ?_ (by first | exact Nat.le_refl _ | (dsimp only; omega) | (simp; done)) _)) x1).trans x2
  go_wp2_with fail
  go_ret
  exact ⟨rfl, X2⟩
end Go.Proofs.YtmbdcgijjpcppaaGreat
