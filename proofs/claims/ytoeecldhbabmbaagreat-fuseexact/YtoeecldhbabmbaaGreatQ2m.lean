/- wide: sums of four products; quat: squares, product. -/
import Derived.Test.YtoeecldhbabmbaaGreatMg2
import Derived.Test.YtoeecldhbabmbaaGreatMg3
open Go.Value renaming int → J, agg → zG
open Go.IntKind renaming i64 → zq, u64 → zu
namespace Go.Proofs.YtoeecldhbabmbaaGreat
open Go.RowKit Go.Shelf
theorem rng64 {a : Int} (h : okW a = true) : -9223372036854775808 ≤ a ∧ a ≤ 9223372036854775807 := by
  unfold okW at h; simp at h; omega
theorem nrng64 {a : Int} (h : okW a = true) : -9223372036854775808 ≤ -a ∧ -a ≤ 9223372036854775807 := by
  unfold okW at h; simp at h; omega
theorem neg64 {a : Int} (h : okW a = true) : wrap64 (-a) = -a := by
  unfold okW at h; simp at h; unfold wrap64; omega
def qw (a b c d x y z t : Int) : Int := a * x - b * y - c * z - d * t
def qx (a b c d x y z t : Int) : Int := a * y + b * x + c * t - d * z
def qy (a b c d x y z t : Int) : Int := a * z - b * t + c * x + d * y
def qz (a b c d x y z t : Int) : Int := a * t + b * z - c * y + d * x
theorem sum4_any (A B : Nat) (x0 x1 x2 x3 y0 y1 y2 y3 : Int) (w : World) (hA : H4 w A (J zq x0) (J zq x1) (J zq x2) (J zq x3)) (hB : H4 w B (J zq y0) (J zq y1) (J zq y2) (J zq y3))
    (hx0 : -9223372036854775808 ≤ x0 ∧ x0 ≤ 9223372036854775807) (hx1 : -9223372036854775808 ≤ x1 ∧ x1 ≤ 9223372036854775807) (hx2 : -9223372036854775808 ≤ x2 ∧ x2 ≤ 9223372036854775807) (hx3 : -9223372036854775808 ≤ x3 ∧ x3 ≤ 9223372036854775807) (hy0 : -9223372036854775808 ≤ y0 ∧ y0 ≤ 9223372036854775807) (hy1 : -9223372036854775808 ≤ y1 ∧ y1 ≤ 9223372036854775807) (hy2 : -9223372036854775808 ≤ y2 ∧ y2 ≤ 9223372036854775807) (hy3 : -9223372036854775808 ≤ y3 ∧ y3 ≤ 9223372036854775807) :
    Calls Tryz.prog 154 #[.slice (some ⟨A, 0, none⟩) 4 4, .slice (some ⟨B, 0, none⟩) 4 4, .func (.func 116) #[] #[]] w fun e w' => (∃ r, e = .returned r ∧ IsW r (x0 * y0 + x1 * y1 + x2 * y2 + x3 * y3)) ∧ Ext w w' := by
  obtain ⟨c0, c1, c2, c3, f0, f1, f2, f3, hb⟩ := hA
  obtain ⟨d0, d1, d2, d3, g0, g1, g2, g3, hc⟩ := hB
  have h := sum64_raw 4 A B (fun i => if i = 0 then x0 else if i = 1 then x1 else if i = 2 then x2 else x3) (fun i => if i = 0 then y0 else if i = 1 then y1 else if i = 2 then y2 else y3) (fun i => if i = 0 then x0 * y0 else if i = 1 then x1 * y1 else if i = 2 then x2 * y2 else x3 * y3) w (by omega) (fun i hi => by
    obtain rfl | rfl | rfl | rfl : i = 0 ∨ i = 1 ∨ i = 2 ∨ i = 3 := by omega
    · exact ⟨c0, hb⟩
    · exact ⟨c1, hb⟩
    · exact ⟨c2, hb⟩
    · exact ⟨c3, hb⟩) (fun i hi => by
    obtain rfl | rfl | rfl | rfl : i = 0 ∨ i = 1 ∨ i = 2 ∨ i = 3 := by omega
    · exact ⟨d0, hc⟩
    · exact ⟨d1, hc⟩
    · exact ⟨d2, hc⟩
    · exact ⟨d3, hc⟩) (fun i w' hi => by
    obtain rfl | rfl | rfl | rfl : i = 0 ∨ i = 1 ∨ i = 2 ∨ i = 3 := by omega
    · exact productw_any x0 y0 w' hx0.1 hx0.2 hy0.1 hy0.2
    · exact productw_any x1 y1 w' hx1.1 hx1.2 hy1.1 hy1.2
    · exact productw_any x2 y2 w' hx2.1 hx2.2 hy2.1 hy2.2
    · exact productw_any x3 y3 w' hx3.1 hx3.2 hy3.1 hy3.2) (fun u v p q w' hu hv => plus_any p q u v w' hu hv)
  have e : sumTo (fun i => if i = 0 then x0 * y0 else if i = 1 then x1 * y1 else if i = 2 then x2 * y2 else x3 * y3) 4 = x0 * y0 + x1 * y1 + x2 * y2 + x3 * y3 := by
    simp [sumTo]
  rw [e] at h
  exact h
theorem sumw4_any (A B : Nat) (a0 a1 a2 a3 a4 a5 a6 a7 a8 a9 a10 a11 z0 z1 z2 z3 y0 y1 y2 y3 : Int) (w : World) (hA : H12 w A (J zu a0) (J zu a1) (J zu a2) (J zu a3) (J zu a4) (J zu a5) (J zu a6) (J zu a7) (J zu a8) (J zu a9) (J zu a10) (J zu a11)) (hB : H4 w B (J zq y0) (J zq y1) (J zq y2) (J zq y3))
    (i0 : IsW (zG #[J zu a0, J zu a1, J zu a2]) z0) (i1 : IsW (zG #[J zu a3, J zu a4, J zu a5]) z1) (i2 : IsW (zG #[J zu a6, J zu a7, J zu a8]) z2) (i3 : IsW (zG #[J zu a9, J zu a10, J zu a11]) z3) (hy0 : -9223372036854775808 ≤ y0 ∧ y0 ≤ 9223372036854775807) (hy1 : -9223372036854775808 ≤ y1 ∧ y1 ≤ 9223372036854775807) (hy2 : -9223372036854775808 ≤ y2 ∧ y2 ≤ 9223372036854775807) (hy3 : -9223372036854775808 ≤ y3 ∧ y3 ≤ 9223372036854775807) :
    Calls Tryz.prog 178 #[.slice (some ⟨A, 0, none⟩) 4 4, .slice (some ⟨B, 0, none⟩) 4 4, .func (.func 155) #[] #[]] w fun e w' => (∃ r, e = .returned r ∧ IsW r (z0 * y0 + z1 * y1 + z2 * y2 + z3 * y3)) ∧ Ext w w' := by
  obtain ⟨c0, c1, c2, c3, c4, c5, c6, c7, c8, c9, c10, c11, f0, f1, f2, f3, f4, f5, f6, f7, f8, f9, f10, f11, hb⟩ := hA
  obtain ⟨d0, d1, d2, d3, g0, g1, g2, g3, hc⟩ := hB
  have h := sumw_raw 4 A B (fun i => if i = 0 then a0 else if i = 1 then a3 else if i = 2 then a6 else a9) (fun i => if i = 0 then a1 else if i = 1 then a4 else if i = 2 then a7 else a10) (fun i => if i = 0 then a2 else if i = 1 then a5 else if i = 2 then a8 else a11) (fun i => if i = 0 then y0 else if i = 1 then y1 else if i = 2 then y2 else y3) (fun i => if i = 0 then z0 * y0 else if i = 1 then z1 * y1 else if i = 2 then z2 * y2 else z3 * y3) w (by omega) (fun i hi => by
    obtain rfl | rfl | rfl | rfl : i = 0 ∨ i = 1 ∨ i = 2 ∨ i = 3 := by omega
    · exact ⟨c0, c1, c2, hb⟩
    · exact ⟨c3, c4, c5, hb⟩
    · exact ⟨c6, c7, c8, hb⟩
    · exact ⟨c9, c10, c11, hb⟩) (fun i hi => by
    obtain rfl | rfl | rfl | rfl : i = 0 ∨ i = 1 ∨ i = 2 ∨ i = 3 := by omega
    · exact ⟨d0, hc⟩
    · exact ⟨d1, hc⟩
    · exact ⟨d2, hc⟩
    · exact ⟨d3, hc⟩) (fun i w' hi => by
    obtain rfl | rfl | rfl | rfl : i = 0 ∨ i = 1 ∨ i = 2 ∨ i = 3 := by omega
    · exact byw_any z0 y0 _ w' i0 hy0.1 hy0.2
    · exact byw_any z1 y1 _ w' i1 hy1.1 hy1.2
    · exact byw_any z2 y2 _ w' i2 hy2.1 hy2.2
    · exact byw_any z3 y3 _ w' i3 hy3.1 hy3.2) (fun u v p q w' hu hv => plus_any p q u v w' hu hv)
  have e : sumTo (fun i => if i = 0 then z0 * y0 else if i = 1 then z1 * y1 else if i = 2 then z2 * y2 else z3 * y3) 4 = z0 * y0 + z1 * y1 + z2 * y2 + z3 * y3 := by
    simp [sumTo]
  rw [e] at h
  exact h
set_option maxRecDepth 20000 in
set_option maxHeartbeats 4000000 in
theorem squares_raw (a b c d z : Int) (w : World)
    (HS : Hid (∀ A w', H4 w' A (J zq a) (J zq b) (J zq c) (J zq d) → Calls Tryz.prog 154 #[.slice (some ⟨A, 0, none⟩) 4 4, .slice (some ⟨A, 0, none⟩) 4 4, .func (.func 116) #[] #[]] w' fun e w'' => (∃ r, e = .returned r ∧ IsW r z) ∧ Ext w' w'')) :
    Calls Tryz.prog 133 #[zG #[J zq a, J zq b, J zq c, J zq d]] w fun e w' => (∃ r, e = .returned r ∧ IsW r z) ∧ Ext w w' := by
  go_enter Tryz.func133, Tryz.ntmps133
  go_wp2_with fail
  go_region_with (go_at_call 154; refine (HS.out _ _ (H4.drew (H4.alloc (h4_at rfl) _))).mono ?_; rintro e w1 ⟨⟨u, rfl, m0, m1, m2, rfl, hr⟩, x1⟩; have HRr : Hid _ := hr; clear hr; obtain ⟨c0, c1, c2, c3, c4, c5, c6⟩ : H3 w1 (w.heap.size + 1) (J zu 0) (J zu 0) (J zu 0) := (H3.drew (h3_at (by simp))).ext x1; have X1 : Ext w w1 := Ext.trans xa x1; clear x1)
  all_goals
    go_wp2_with fail
    exact bodyPost_ret (v := zG #[J zu m0, J zu m1, J zu m2]) (by simp [results, Tryz.results133, go_sem, c0, c1, c2]) rfl ⟨⟨_, rfl, _, _, _, rfl, HRr.out⟩, xa⟩
def sq4 (a b c d : Int) : Nat := a.natAbs * a.natAbs + b.natAbs * b.natAbs + c.natAbs * c.natAbs + d.natAbs * d.natAbs
theorem sq4_int (a b c d : Int) : a * a + b * b + c * c + d * d = ((sq4 a b c d : Nat) : Int) := by
  unfold sq4
  simp only [Int.natCast_add, Int.natCast_mul, Int.natAbs_mul_self']
theorem squares_any (a b c d : Int) (w : World) (ha : okW a = true) (hb : okW b = true) (hc : okW c = true) (hd : okW d = true) :
    Calls Tryz.prog 133 #[zG #[J zq a, J zq b, J zq c, J zq d]] w fun e w' => (∃ r, e = .returned r ∧ IsW r ((sq4 a b c d : Nat) : Int)) ∧ Ext w w' := by
  rw [← sq4_int]
  exact squares_raw a b c d _ w (fun A w' h => sum4_any A A a b c d a b c d w' h h (rng64 ha) (rng64 hb) (rng64 hc) (rng64 hd) (rng64 ha) (rng64 hb) (rng64 hc) (rng64 hd))
theorem product64_any (a b c d x y z t : Int) (w : World) (ha : okW a = true) (hb : okW b = true) (hc : okW c = true) (hd : okW d = true) (hx : okW x = true) (hy : okW y = true) (hz : okW z = true) (ht : okW t = true) :
    Calls Tryz.prog 115 #[zG #[J zq a, J zq b, J zq c, J zq d], zG #[J zq x, J zq y, J zq z, J zq t], .func (.func 116) #[] #[]] w fun e w' => (∃ r, e = .returned r ∧ IsF r (qw a b c d x y z t) (qx a b c d x y z t) (qy a b c d x y z t) (qz a b c d x y z t)) ∧ Ext w w' := by
  have R := rows_any a b c d
  rw [neg64 hb, neg64 hc, neg64 hd] at R
  have ra := rng64 ha; have rb := rng64 hb; have rc := rng64 hc; have rd := rng64 hd; have rx := rng64 hx; have ry := rng64 hy; have rz := rng64 hz; have rt := rng64 ht
  have nb := nrng64 hb; have nc := nrng64 hc; have nd := nrng64 hd
  refine productw_raw a b c d x y z t _ _ _ _ _ _ _ _ _ _ _ _ _ _ _ _ _ _ _ _ w R ?_ ?_ ?_ ?_
  · intro A B w' h1 h2
    have h := sum4_any A B x y z t a (-b) (-c) (-d) w' h1 h2 rx ry rz rt ra nb nc nd
    rw [show x * a + y * -b + z * -c + t * -d = qw a b c d x y z t by unfold qw; grind] at h
    exact h
  · intro A B w' h1 h2
    have h := sum4_any A B x y z t b a (-d) c w' h1 h2 rx ry rz rt rb ra nd rc
    rw [show x * b + y * a + z * -d + t * c = qx a b c d x y z t by unfold qx; grind] at h
    exact h
  · intro A B w' h1 h2
    have h := sum4_any A B x y z t c d a (-b) w' h1 h2 rx ry rz rt rc rd ra nb
    rw [show x * c + y * d + z * a + t * -b = qy a b c d x y z t by unfold qy; grind] at h
    exact h
  · intro A B w' h1 h2
    have h := sum4_any A B x y z t d (-c) b a w' h1 h2 rx ry rz rt rd nc rb ra
    rw [show x * d + y * -c + z * b + t * a = qz a b c d x y z t by unfold qz; grind] at h
    exact h
theorem productW_any (a b c d x y z t : Int) (v : Value) (w : World) (ha : okW a = true) (hb : okW b = true) (hc : okW c = true) (hd : okW d = true) (hv : IsF v x y z t) :
    Calls Tryz.prog 157 #[zG #[J zq a, J zq b, J zq c, J zq d], v, .func (.func 155) #[] #[]] w fun e w' => (∃ r, e = .returned r ∧ IsF r (qw a b c d x y z t) (qx a b c d x y z t) (qy a b c d x y z t) (qz a b c d x y z t)) ∧ Ext w w' := by
  have R := rows_any a b c d
  rw [neg64 hb, neg64 hc, neg64 hd] at R
  have ra := rng64 ha; have rb := rng64 hb; have rc := rng64 hc; have rd := rng64 hd
  have nb := nrng64 hb; have nc := nrng64 hc; have nd := nrng64 hd
  obtain ⟨l0, l1, l2, l3, l4, l5, l6, l7, l8, l9, l10, l11, rfl, i0, i1, i2, i3⟩ := hv
  refine productx_raw a b c d _ _ _ _ _ _ _ _ _ _ _ _ _ _ _ _ _ _ _ _ _ _ _ _ _ _ _ _ _ _ _ _ w R ?_ ?_ ?_ ?_
  · intro A B w' h1 h2
    have h := sumw4_any A B _ _ _ _ _ _ _ _ _ _ _ _ x y z t a (-b) (-c) (-d) w' h1 h2 i0 i1 i2 i3 ra nb nc nd
    rw [show x * a + y * -b + z * -c + t * -d = qw a b c d x y z t by unfold qw; grind] at h
    exact h
  · intro A B w' h1 h2
    have h := sumw4_any A B _ _ _ _ _ _ _ _ _ _ _ _ x y z t b a (-d) c w' h1 h2 i0 i1 i2 i3 rb ra nd rc
    rw [show x * b + y * a + z * -d + t * c = qx a b c d x y z t by unfold qx; grind] at h
    exact h
  · intro A B w' h1 h2
    have h := sumw4_any A B _ _ _ _ _ _ _ _ _ _ _ _ x y z t c d a (-b) w' h1 h2 i0 i1 i2 i3 rc rd ra nb
    rw [show x * c + y * d + z * a + t * -b = qy a b c d x y z t by unfold qy; grind] at h
    exact h
  · intro A B w' h1 h2
    have h := sumw4_any A B _ _ _ _ _ _ _ _ _ _ _ _ x y z t d (-c) b a w' h1 h2 i0 i1 i2 i3 rd nc rb ra
    rw [show x * d + y * -c + z * b + t * a = qz a b c d x y z t by unfold qz; grind] at h
    exact h
end Go.Proofs.YtoeecldhbabmbaaGreat
