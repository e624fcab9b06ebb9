/- FuseUp: its numbers. -/
import Derived.Test.YtmbdcgijjpcppaaFuRm
import Derived.Test.YtmbdcgijjpcppaaMg33
namespace Go.Proofs.Ytmbdcgijjpcppaa
open Go.RowKit Go.Shelf
/-- what is up, as a quaternion shows it: twice its numerators -/
def tx (a b c d : Int) : Int := 2 * (b * d - a * c)
def ty (a b c d : Int) : Int := 2 * (c * d + a * b)
def tz (a b c d : Int) : Int := a * a - b * b - c * c + d * d
theorem prod_in {a b A B : Int} (h : -A ≤ a ∧ a ≤ A) (k : -B ≤ b ∧ b ≤ B) : -(A * B) ≤ a * b ∧ a * b ≤ A * B := mul_le_of h.1 h.2 k.1 k.2
theorem tau_near {L a b c d X0 X1 X2 X3 A E : Int} (hL : 0 ≤ L) (ha : -A ≤ a ∧ a ≤ A) (hb : -A ≤ b ∧ b ≤ A) (hc : -A ≤ c ∧ c ≤ A) (hd : -A ≤ d ∧ d ≤ A)
    (h0 : -E ≤ X0 - L * a ∧ X0 - L * a ≤ E) (h1 : -E ≤ X1 - L * b ∧ X1 - L * b ≤ E) (h2 : -E ≤ X2 - L * c ∧ X2 - L * c ≤ E) (h3 : -E ≤ X3 - L * d ∧ X3 - L * d ≤ E) :
    (-(L * (8 * (A * E)) + 4 * (E * E)) ≤ tx X0 X1 X2 X3 - L * L * tx a b c d ∧ tx X0 X1 X2 X3 - L * L * tx a b c d ≤ L * (8 * (A * E)) + 4 * (E * E)) ∧
    (-(L * (8 * (A * E)) + 4 * (E * E)) ≤ ty X0 X1 X2 X3 - L * L * ty a b c d ∧ ty X0 X1 X2 X3 - L * L * ty a b c d ≤ L * (8 * (A * E)) + 4 * (E * E)) ∧
    (-(L * (8 * (A * E)) + 4 * (E * E)) ≤ tz X0 X1 X2 X3 - L * L * tz a b c d ∧ tz X0 X1 X2 X3 - L * L * tz a b c d ≤ L * (8 * (A * E)) + 4 * (E * E)) := by
  obtain ⟨e0, rfl⟩ : ∃ e, X0 = L * a + e := ⟨X0 - L * a, by omega⟩
  obtain ⟨e1, rfl⟩ : ∃ e, X1 = L * b + e := ⟨X1 - L * b, by omega⟩
  obtain ⟨e2, rfl⟩ : ∃ e, X2 = L * c + e := ⟨X2 - L * c, by omega⟩
  obtain ⟨e3, rfl⟩ : ∃ e, X3 = L * d + e := ⟨X3 - L * d, by omega⟩
  have g0 : -E ≤ e0 ∧ e0 ≤ E := by omega
  have g1 : -E ≤ e1 ∧ e1 ≤ E := by omega
  have g2 : -E ≤ e2 ∧ e2 ≤ E := by omega
  have g3 : -E ≤ e3 ∧ e3 ≤ E := by omega
  have i1 : tx (L * a + e0) (L * b + e1) (L * c + e2) (L * d + e3) - L * L * tx a b c d = L * (2 * (b * e3) + 2 * (d * e1) - 2 * (a * e2) - 2 * (c * e0)) + 2 * (e1 * e3 - e0 * e2) := by unfold tx; grind
  have i2 : ty (L * a + e0) (L * b + e1) (L * c + e2) (L * d + e3) - L * L * ty a b c d = L * (2 * (c * e3) + 2 * (d * e2) + 2 * (a * e1) + 2 * (b * e0)) + 2 * (e2 * e3 + e0 * e1) := by unfold ty; grind
  have i3 : tz (L * a + e0) (L * b + e1) (L * c + e2) (L * d + e3) - L * L * tz a b c d = L * (2 * (a * e0) - 2 * (b * e1) - 2 * (c * e2) + 2 * (d * e3)) + (e0 * e0 - e1 * e1 - e2 * e2 + e3 * e3) := by unfold tz; grind
  rw [i1, i2, i3]
  have k (u : Int) (hu : -(8 * (A * E)) ≤ u ∧ u ≤ 8 * (A * E)) : -(L * (8 * (A * E))) ≤ L * u ∧ L * u ≤ L * (8 * (A * E)) := by
    have a1 := Int.mul_le_mul_of_nonneg_left hu.1 hL
    have a2 := Int.mul_le_mul_of_nonneg_left hu.2 hL
    rw [Int.mul_neg] at a1
    exact ⟨a1, a2⟩
  have ma0 := prod_in ha g0
  have ma1 := prod_in ha g1
  have ma2 := prod_in ha g2
  have ma3 := prod_in ha g3
  have mb0 := prod_in hb g0
  have mb1 := prod_in hb g1
  have mb2 := prod_in hb g2
  have mb3 := prod_in hb g3
  have mc0 := prod_in hc g0
  have mc1 := prod_in hc g1
  have mc2 := prod_in hc g2
  have mc3 := prod_in hc g3
  have md0 := prod_in hd g0
  have md1 := prod_in hd g1
  have md2 := prod_in hd g2
  have md3 := prod_in hd g3
  have n00 := prod_in g0 g0
  have n01 := prod_in g0 g1
  have n02 := prod_in g0 g2
  have n03 := prod_in g0 g3
  have n11 := prod_in g1 g1
  have n12 := prod_in g1 g2
  have n13 := prod_in g1 g3
  have n22 := prod_in g2 g2
  have n23 := prod_in g2 g3
  have n33 := prod_in g3 g3
  have k1 := k (2 * (b * e3) + 2 * (d * e1) - 2 * (a * e2) - 2 * (c * e0)) (by omega)
  have k2 := k (2 * (c * e3) + 2 * (d * e2) + 2 * (a * e1) + 2 * (b * e0)) (by omega)
  have k3 := k (2 * (a * e0) - 2 * (b * e1) - 2 * (c * e2) + 2 * (d * e3)) (by omega)
  refine ⟨⟨?_, ?_⟩, ⟨?_, ?_⟩, ⟨?_, ?_⟩⟩ <;> omega
/-- leaning, of what is shown -/
theorem tau_lean (K a b c d x y z : Int) :
    tx (a * K - b * x - c * y - d * z) (a * x + b * K + c * z - d * y) (a * y - b * z + c * K + d * x) (a * z + b * y - c * x + d * K) = (K * K - (x * x + y * y + z * z)) * tx a b c d + 2 * (x * tx a b c d + y * ty a b c d + z * tz a b c d) * x + 2 * K * (ty a b c d * z - tz a b c d * y) ∧
    ty (a * K - b * x - c * y - d * z) (a * x + b * K + c * z - d * y) (a * y - b * z + c * K + d * x) (a * z + b * y - c * x + d * K) = (K * K - (x * x + y * y + z * z)) * ty a b c d + 2 * (x * tx a b c d + y * ty a b c d + z * tz a b c d) * y + 2 * K * (tz a b c d * x - tx a b c d * z) ∧
    tz (a * K - b * x - c * y - d * z) (a * x + b * K + c * z - d * y) (a * y - b * z + c * K + d * x) (a * z + b * y - c * x + d * K) = (K * K - (x * x + y * y + z * z)) * tz a b c d + 2 * (x * tx a b c d + y * ty a b c d + z * tz a b c d) * z + 2 * K * (tx a b c d * y - ty a b c d * x) := by
  unfold tx ty tz
  refine ⟨?_, ?_, ?_⟩ <;> grind
/-- one number of what is shown behind a leaning -/
theorem comp_t {F W n m4 t tn tP tp Bs Br H E1 E2 r : Int} (hF : 1152921496016912400 ≤ F) (hF2 : F ≤ 1152921513196781584) (hm : 0 ≤ m4)
    (h1 : 2 * (n * t) = 2147483648 * tn - r) (hr : -n ≤ r ∧ r ≤ n) (h2 : m4 * tn = 5070602400912917605986812821504 * tP + E2) (h3 : 1152921504606846976 * tP = tp + E1) (h4 : 1073741824 * tp = F * Bs + Br) (h5 : 1152921504606846976 * (m4 * n) = 5070602400912917605986812821504 * (F * W) + H)
    (hW : F * W ≤ 1395689395574161725578578449164926976) (ht : -1073741824 ≤ t ∧ t ≤ 1073741824) (b1 : -6189700196426901374495621120 ≤ E1 ∧ E1 ≤ 6189700196426901374495621120) (b2 : -70778732319555200400381918345807787982848 ≤ E2 ∧ E2 ≤ 70778732319555200400381918345807787982848) (bB : -1329227995784915872903807060280344576 ≤ Br ∧ Br ≤ 1329227995784915872903807060280344576) (bH : -43939712147706765346850525962453664912716488111248241590272 ≤ H ∧ H ≤ 43939712147706765346850525962453664912716488111248241590272) :
    -34587645138205409280 ≤ t * W - Bs ∧ t * W - Bs ≤ 34587645138205409280 := by
  have a0 : 1152921504606846976 * (m4 * n) * t * 2 = 1152921504606846976 * (m4 * (2 * (n * t))) := by
    have : ∀ c : Int, c * (m4 * n) * t * 2 = c * (m4 * (2 * (n * t))) := fun c => by grind
    exact this _
  have a1 : m4 * (2 * (n * t)) = 2147483648 * (m4 * tn) - m4 * r := by
    rw [h1]
    have : ∀ c : Int, m4 * (c * tn - r) = c * (m4 * tn) - m4 * r := fun c => by grind
    exact this _
  rw [a1, h2, h5] at a0
  have a2 : (5070602400912917605986812821504 * (F * W) + H) * t * 2 = 10141204801825835211973625643008 * (F * (t * W)) + 2 * (H * t) := by
    have : ∀ c : Int, (c * (F * W) + H) * t * 2 = c * 2 * (F * (t * W)) + 2 * (H * t) := fun c => by grind
    rw [this]; omega
  rw [a2] at a0
  have hmr := prod_in (show -m4 ≤ m4 ∧ m4 ≤ m4 by omega) hr
  have hHt := prod_in bH ht
  have a3 : F * (t * W - Bs) = F * (t * W) - F * Bs := by rw [Int.mul_sub]
  generalize F * (t * W) = X1 at *
  generalize F * Bs = X2 at *
  generalize m4 * r = X3 at *
  generalize H * t = X4 at *
  generalize m4 * n = X5 at *
  generalize F * W = X6 at *
  constructor
  · apply Int.le_of_not_gt
    intro hc
    have g := Int.mul_le_mul_of_nonneg_left (show t * W - Bs ≤ -34587645138205409280 by omega) (show (0 : Int) ≤ F by omega)
    omega
  · apply Int.le_of_not_gt
    intro hc
    have g := Int.mul_le_mul_of_nonneg_left (show 34587645138205409280 ≤ t * W - Bs by omega) (show (0 : Int) ≤ F by omega)
    omega
theorem tau_scale (K a b c d : Int) : tx (K * a) (K * b) (K * c) (K * d) = K * K * tx a b c d ∧ ty (K * a) (K * b) (K * c) (K * d) = K * K * ty a b c d ∧ tz (K * a) (K * b) (K * c) (K * d) = K * K * tz a b c d := by
  unfold tx ty tz
  refine ⟨?_, ?_, ?_⟩ <;> grind
theorem lean_sq (K a b c d x y z : Int) : (a * K - b * x - c * y - d * z) * (a * K - b * x - c * y - d * z) + (a * x + b * K + c * z - d * y) * (a * x + b * K + c * z - d * y) + (a * y - b * z + c * K + d * x) * (a * y - b * z + c * K + d * x) + (a * z + b * y - c * x + d * K) * (a * z + b * y - c * x + d * K) = (a * a + b * b + c * c + d * d) * (K * K + (x * x + y * y + z * z)) := by grind
/-- how great the root of a leaning is -/
theorem lean_M {FW N S M p0 p1 p2 p3 P0 P1 P2 P3 : Int} (hN : 1152921504606846976 - 2147483657 ≤ N ∧ N ≤ 1152921504606846976 + 2147483656) (hFW : 0 ≤ FW ∧ FW ≤ 1395689395574161725578578449164926976)
    (hP : p0 * p0 + p1 * p1 + p2 * p2 + p3 * p3 = FW) (hS : S = P0 * P0 + P1 * P1 + P2 * P2 + P3 * P3)
    (l0 : -1206964704631586816 ≤ p0 ∧ p0 ≤ 1206964704631586816) (l1 : -1206964704631586816 ≤ p1 ∧ p1 ≤ 1206964704631586816) (l2 : -1206964704631586816 ≤ p2 ∧ p2 ≤ 1206964704631586816) (l3 : -1206964704631586816 ≤ p3 ∧ p3 ≤ 1206964704631586816)
    (r0 : -536870912 ≤ 1073741824 * P0 - p0 ∧ 1073741824 * P0 - p0 ≤ 536870912) (r1 : -536870912 ≤ 1073741824 * P1 - p1 ∧ 1073741824 * P1 - p1 ≤ 536870912) (r2 : -536870912 ≤ 1073741824 * P2 - p2 ∧ 1073741824 * P2 - p2 ≤ 536870912) (r3 : -536870912 ≤ 1073741824 * P3 - p3 ∧ 1073741824 * P3 - p3 ≤ 536870912)
    (hM : 0 ≤ M) (hMu : M ≤ 2357397852516351) (m1 : M * M ≤ S * 1099511627776) (m2 : S * 1099511627776 < (M + 1) * (M + 1)) :
    -43939712147706765346850525962453664912716488111248241590272 ≤ 1152921504606846976 * (4 * (M * M) * N) - 5070602400912917605986812821504 * FW ∧ 1152921504606846976 * (4 * (M * M) * N) - 5070602400912917605986812821504 * FW ≤ 43939712147706765346850525962453664912716488111248241590272 := by
  obtain ⟨e0, he0⟩ : ∃ e, 1073741824 * P0 = p0 + e := ⟨1073741824 * P0 - p0, by omega⟩
  have g0 : -536870912 ≤ e0 ∧ e0 ≤ 536870912 := by omega
  have c0 := prod_in l0 g0
  have d0 := prod_in g0 g0
  have z0 := sq_nonneg e0
  obtain ⟨e1, he1⟩ : ∃ e, 1073741824 * P1 = p1 + e := ⟨1073741824 * P1 - p1, by omega⟩
  have g1 : -536870912 ≤ e1 ∧ e1 ≤ 536870912 := by omega
  have c1 := prod_in l1 g1
  have d1 := prod_in g1 g1
  have z1 := sq_nonneg e1
  obtain ⟨e2, he2⟩ : ∃ e, 1073741824 * P2 = p2 + e := ⟨1073741824 * P2 - p2, by omega⟩
  have g2 : -536870912 ≤ e2 ∧ e2 ≤ 536870912 := by omega
  have c2 := prod_in l2 g2
  have d2 := prod_in g2 g2
  have z2 := sq_nonneg e2
  obtain ⟨e3, he3⟩ : ∃ e, 1073741824 * P3 = p3 + e := ⟨1073741824 * P3 - p3, by omega⟩
  have g3 : -536870912 ≤ e3 ∧ e3 ≤ 536870912 := by omega
  have c3 := prod_in l3 g3
  have d3 := prod_in g3 g3
  have z3 := sq_nonneg e3
  have key : 1152921504606846976 * S = FW + 2 * (p0 * e0 + p1 * e1 + p2 * e2 + p3 * e3) + (e0 * e0 + e1 * e1 + e2 * e2 + e3 * e3) := by
    have : 1152921504606846976 * S = (1073741824 * P0) * (1073741824 * P0) + (1073741824 * P1) * (1073741824 * P1) + (1073741824 * P2) * (1073741824 * P2) + (1073741824 * P3) * (1073741824 * P3) := by
      rw [hS, mmmc 1073741824 P0, mmmc 1073741824 P1, mmmc 1073741824 P2, mmmc 1073741824 P3]
      generalize P0 * P0 = A; generalize P1 * P1 = B; generalize P2 * P2 = C; generalize P3 * P3 = D
      omega
    rw [this, he0, he1, he2, he3, ← hP]
    grind
  have e4 : (M + 1) * (M + 1) = M * M + 2 * M + 1 := by grind
  rw [e4] at m2
  have mm := Int.mul_nonneg hM hM
  have u1 : 4 * (M * M) * N ≤ 4 * (M * M) * (1152921504606846976 + 2147483656) := Int.mul_le_mul_of_nonneg_left hN.2 (by omega)
  have u2 : 4 * (M * M) * (1152921504606846976 - 2147483657) ≤ 4 * (M * M) * N := Int.mul_le_mul_of_nonneg_left hN.1 (by omega)
  generalize 4 * (M * M) * N = MN at *
  generalize M * M = M2 at *
  generalize p0 * e0 = A0 at *; generalize p1 * e1 = A1 at *; generalize p2 * e2 = A2 at *; generalize p3 * e3 = A3 at *
  generalize e0 * e0 = B0 at *; generalize e1 * e1 = B1 at *; generalize e2 * e2 = B2 at *; generalize e3 * e3 = B3 at *
  constructor <;> omega
/-- what is off in what is shown, leaned -/
theorem lean_off {C R v0 v1 v2 x y z : Int} (hC : 0 ≤ C ∧ C ≤ 844424930131968) (hR : 0 ≤ R ∧ R ≤ 576460756598390792) (h0 : -R ≤ v0 ∧ v0 ≤ R) (h1 : -R ≤ v1 ∧ v1 ≤ R) (h2 : -R ≤ v2 ∧ v2 ≤ R)
    (hx : -16777216 ≤ x ∧ x ≤ 16777216) (hy : -16777216 ≤ y ∧ y ≤ 16777216) (hz : -16777216 ≤ z ∧ z ≤ 16777216) :
    (-1329227995784915872903807060280344576 ≤ (1152921504606846976 - C) * v0 + 2 * (x * v0 + y * v1 + z * v2) * x + 2147483648 * (v1 * z - v2 * y) ∧ (1152921504606846976 - C) * v0 + 2 * (x * v0 + y * v1 + z * v2) * x + 2147483648 * (v1 * z - v2 * y) ≤ 1329227995784915872903807060280344576) ∧
    (-1329227995784915872903807060280344576 ≤ (1152921504606846976 - C) * v1 + 2 * (x * v0 + y * v1 + z * v2) * y + 2147483648 * (v2 * x - v0 * z) ∧ (1152921504606846976 - C) * v1 + 2 * (x * v0 + y * v1 + z * v2) * y + 2147483648 * (v2 * x - v0 * z) ≤ 1329227995784915872903807060280344576) ∧
    (-1329227995784915872903807060280344576 ≤ (1152921504606846976 - C) * v2 + 2 * (x * v0 + y * v1 + z * v2) * z + 2147483648 * (v0 * y - v1 * x) ∧ (1152921504606846976 - C) * v2 + 2 * (x * v0 + y * v1 + z * v2) * z + 2147483648 * (v0 * y - v1 * x) ≤ 1329227995784915872903807060280344576) := by
  have k0 : -576460756598390792 ≤ v0 ∧ v0 ≤ 576460756598390792 := by omega
  have k1 : -576460756598390792 ≤ v1 ∧ v1 ≤ 576460756598390792 := by omega
  have k2 : -576460756598390792 ≤ v2 ∧ v2 ≤ 576460756598390792 := by omega
  have q : -1152921504606846976 ≤ 1152921504606846976 - C ∧ 1152921504606846976 - C ≤ 1152921504606846976 := by omega
  have a0 := prod_in q k0; have a1 := prod_in q k1; have a2 := prod_in q k2
  have m0x := prod_in k0 hx
  have m0y := prod_in k0 hy
  have m0z := prod_in k0 hz
  have m1x := prod_in k1 hx
  have m1y := prod_in k1 hy
  have m1z := prod_in k1 hz
  have m2x := prod_in k2 hx
  have m2y := prod_in k2 hy
  have m2z := prod_in k2 hz
  have s : -29014219886923882709385216 ≤ x * v0 + y * v1 + z * v2 ∧ x * v0 + y * v1 + z * v2 ≤ 29014219886923882709385216 := by
    rw [Int.mul_comm x, Int.mul_comm y, Int.mul_comm z]; omega
  generalize x * v0 + y * v1 + z * v2 = S at *
  have b0 := prod_in s hx; have b1 := prod_in s hy; have b2 := prod_in s hz
  rw [Int.mul_assoc 2 S x, Int.mul_assoc 2 S y, Int.mul_assoc 2 S z]
  refine ⟨⟨?_, ?_⟩, ⟨?_, ?_⟩, ⟨?_, ?_⟩⟩ <;> omega
theorem mn2 (m n : Int) : 2 * m * n = 2 * (n * m) := by grind
theorem sh_tau (a b c d : Int) : sh0 a b c d = nearI (1073741824 * tx a b c d) (sq4 a b c d) ∧ sh1 a b c d = nearI (1073741824 * ty a b c d) (sq4 a b c d) ∧ sh2 a b c d = nearI (1073741824 * tz a b c d) (sq4 a b c d) := by
  have e : ∀ K : Int, tnx a (-b) (-c) (-d) 0 0 K = K * tx a b c d ∧ tny a (-b) (-c) (-d) 0 0 K = K * ty a b c d ∧ tnz a (-b) (-c) (-d) 0 0 K = K * tz a b c d := fun K => by
    rw [tnx_eq, tny_eq, tnz_eq]; unfold tx ty tz
    refine ⟨?_, ?_, ?_⟩ <;> grind
  obtain ⟨e0, e1, e2⟩ := e 1073741824
  unfold sh0 sh1 sh2
  rw [e0, e1, e2]
  exact ⟨rfl, rfl, rfl⟩
/-- a number that is near: how far it is off -/
theorem near_rest (p : Int) {d : Int} (hd : 0 < d) : -d ≤ 2 * p - 2 * (d * nearI p d) ∧ 2 * p - 2 * (d * nearI p d) ≤ d := by
  obtain ⟨h1, h2, _⟩ := nearI_spec p d hd
  rw [Int.mul_comm d]
  omega
theorem b_lin0 (KK K2 K F X Y Z s0 s1 s2 x y z : Int) : K * ((KK - (x * x + y * y + z * z)) * X + 2 * (x * X + y * Y + z * Z) * x + K2 * (Y * z - Z * y)) = F * ((KK - (x * x + y * y + z * z)) * s0 + 2 * (x * s0 + y * s1 + z * s2) * x + K2 * (s1 * z - s2 * y)) + ((KK - (x * x + y * y + z * z)) * (K * X - F * s0) + 2 * (x * (K * X - F * s0) + y * (K * Y - F * s1) + z * (K * Z - F * s2)) * x + K2 * ((K * Y - F * s1) * z - (K * Z - F * s2) * y)) := by grind
theorem b_lin1 (KK K2 K F X Y Z s0 s1 s2 x y z : Int) : K * ((KK - (x * x + y * y + z * z)) * Y + 2 * (x * X + y * Y + z * Z) * y + K2 * (Z * x - X * z)) = F * ((KK - (x * x + y * y + z * z)) * s1 + 2 * (x * s0 + y * s1 + z * s2) * y + K2 * (s2 * x - s0 * z)) + ((KK - (x * x + y * y + z * z)) * (K * Y - F * s1) + 2 * (x * (K * X - F * s0) + y * (K * Y - F * s1) + z * (K * Z - F * s2)) * y + K2 * ((K * Z - F * s2) * x - (K * X - F * s0) * z)) := by grind
theorem b_lin2 (KK K2 K F X Y Z s0 s1 s2 x y z : Int) : K * ((KK - (x * x + y * y + z * z)) * Z + 2 * (x * X + y * Y + z * Z) * z + K2 * (X * y - Y * x)) = F * ((KK - (x * x + y * y + z * z)) * s2 + 2 * (x * s0 + y * s1 + z * s2) * z + K2 * (s0 * y - s1 * x)) + ((KK - (x * x + y * y + z * z)) * (K * Z - F * s2) + 2 * (x * (K * X - F * s0) + y * (K * Y - F * s1) + z * (K * Z - F * s2)) * z + K2 * ((K * X - F * s0) * y - (K * Y - F * s1) * x)) := by grind
/-- what is shown behind a leaning is what was shown, leaned, but for a little -/
theorem shown_near {a b c d x y z n0 n1 n2 n3 : Int} (h : okO a b c d = true) (hx : -16777216 ≤ x ∧ x ≤ 16777216) (hy : -16777216 ≤ y ∧ y ≤ 16777216) (hz : -16777216 ≤ z ∧ z ≤ 16777216)
    (hu : UnitQ (mw a b c d 1073741824 x y z) (mx a b c d 1073741824 x y z) (my a b c d 1073741824 x y z) (mz a b c d 1073741824 x y z) n0 n1 n2 n3) (hUn : 1152921504606846976 - 2147483657 ≤ n0 * n0 + n1 * n1 + n2 * n2 + n3 * n3 ∧ n0 * n0 + n1 * n1 + n2 * n2 + n3 * n3 ≤ 1152921504606846976 + 2147483656) :
    (-34587645138205409280 ≤ sh0 n0 n1 n2 n3 * (1152921504606846976 + (x * x + y * y + z * z)) - ((1152921504606846976 - (x * x + y * y + z * z)) * (sh0 a b c d) + 2 * (x * (sh0 a b c d) + y * (sh1 a b c d) + z * (sh2 a b c d)) * x + 2147483648 * ((sh1 a b c d) * z - (sh2 a b c d) * y)) ∧ sh0 n0 n1 n2 n3 * (1152921504606846976 + (x * x + y * y + z * z)) - ((1152921504606846976 - (x * x + y * y + z * z)) * (sh0 a b c d) + 2 * (x * (sh0 a b c d) + y * (sh1 a b c d) + z * (sh2 a b c d)) * x + 2147483648 * ((sh1 a b c d) * z - (sh2 a b c d) * y)) ≤ 34587645138205409280) ∧ (-34587645138205409280 ≤ sh1 n0 n1 n2 n3 * (1152921504606846976 + (x * x + y * y + z * z)) - ((1152921504606846976 - (x * x + y * y + z * z)) * (sh1 a b c d) + 2 * (x * (sh0 a b c d) + y * (sh1 a b c d) + z * (sh2 a b c d)) * y + 2147483648 * ((sh2 a b c d) * x - (sh0 a b c d) * z)) ∧ sh1 n0 n1 n2 n3 * (1152921504606846976 + (x * x + y * y + z * z)) - ((1152921504606846976 - (x * x + y * y + z * z)) * (sh1 a b c d) + 2 * (x * (sh0 a b c d) + y * (sh1 a b c d) + z * (sh2 a b c d)) * y + 2147483648 * ((sh2 a b c d) * x - (sh0 a b c d) * z)) ≤ 34587645138205409280) ∧ (-34587645138205409280 ≤ sh2 n0 n1 n2 n3 * (1152921504606846976 + (x * x + y * y + z * z)) - ((1152921504606846976 - (x * x + y * y + z * z)) * (sh2 a b c d) + 2 * (x * (sh0 a b c d) + y * (sh1 a b c d) + z * (sh2 a b c d)) * z + 2147483648 * ((sh0 a b c d) * y - (sh1 a b c d) * x)) ∧ sh2 n0 n1 n2 n3 * (1152921504606846976 + (x * x + y * y + z * z)) - ((1152921504606846976 - (x * x + y * y + z * z)) * (sh2 a b c d) + 2 * (x * (sh0 a b c d) + y * (sh1 a b c d) + z * (sh2 a b c d)) * z + 2147483648 * ((sh0 a b c d) * y - (sh1 a b c d) * x)) ≤ 34587645138205409280) := by
  have hn := unitq_okO (lean_prod h hx hy hz).2 hu
  have hP0 := (lean_prod h hx hy hz).2
  obtain ⟨tn0, tn1, tn2⟩ := sh_le hn
  obtain ⟨a0, b0, c0, d0⟩ := okO_abs h
  have qax := qk_le a0 hx; have qay := qk_le a0 hy; have qaz := qk_le a0 hz
  have qbx := qk_le b0 hx; have qby := qk_le b0 hy; have qbz := qk_le b0 hz
  have qcx := qk_le c0 hx; have qcy := qk_le c0 hy; have qcz := qk_le c0 hz
  have qdx := qk_le d0 hx; have qdy := qk_le d0 hy; have qdz := qk_le d0 hz
  have l0 : -1206964704631586816 ≤ a * 1073741824 - b * x - c * y - d * z ∧ a * 1073741824 - b * x - c * y - d * z ≤ 1206964704631586816 := by omega
  have e0 : qw a b c d 1073741824 x y z = a * 1073741824 - b * x - c * y - d * z := by unfold qw; rfl
  have f0 := near_off (qw a b c d 1073741824 x y z)
  have p0 : -1124073477 ≤ mw a b c d 1073741824 x y z ∧ mw a b c d 1073741824 x y z ≤ 1124073477 := nearQ_abs (B := 1124073477) (by rw [e0]; omega) (by rw [e0]; omega)
  have r0 : -536870912 ≤ 1073741824 * mw a b c d 1073741824 x y z - (a * 1073741824 - b * x - c * y - d * z) ∧ 1073741824 * mw a b c d 1073741824 x y z - (a * 1073741824 - b * x - c * y - d * z) ≤ 536870912 := by unfold mw; rw [← e0]; omega
  have l1 : -1206964704631586816 ≤ a * x + b * 1073741824 + c * z - d * y ∧ a * x + b * 1073741824 + c * z - d * y ≤ 1206964704631586816 := by omega
  have e1 : qx a b c d 1073741824 x y z = a * x + b * 1073741824 + c * z - d * y := by unfold qx; rfl
  have f1 := near_off (qx a b c d 1073741824 x y z)
  have p1 : -1124073477 ≤ mx a b c d 1073741824 x y z ∧ mx a b c d 1073741824 x y z ≤ 1124073477 := nearQ_abs (B := 1124073477) (by rw [e1]; omega) (by rw [e1]; omega)
  have r1 : -536870912 ≤ 1073741824 * mx a b c d 1073741824 x y z - (a * x + b * 1073741824 + c * z - d * y) ∧ 1073741824 * mx a b c d 1073741824 x y z - (a * x + b * 1073741824 + c * z - d * y) ≤ 536870912 := by unfold mx; rw [← e1]; omega
  have l2 : -1206964704631586816 ≤ a * y - b * z + c * 1073741824 + d * x ∧ a * y - b * z + c * 1073741824 + d * x ≤ 1206964704631586816 := by omega
  have e2 : qy a b c d 1073741824 x y z = a * y - b * z + c * 1073741824 + d * x := by unfold qy; rfl
  have f2 := near_off (qy a b c d 1073741824 x y z)
  have p2 : -1124073477 ≤ my a b c d 1073741824 x y z ∧ my a b c d 1073741824 x y z ≤ 1124073477 := nearQ_abs (B := 1124073477) (by rw [e2]; omega) (by rw [e2]; omega)
  have r2 : -536870912 ≤ 1073741824 * my a b c d 1073741824 x y z - (a * y - b * z + c * 1073741824 + d * x) ∧ 1073741824 * my a b c d 1073741824 x y z - (a * y - b * z + c * 1073741824 + d * x) ≤ 536870912 := by unfold my; rw [← e2]; omega
  have l3 : -1206964704631586816 ≤ a * z + b * y - c * x + d * 1073741824 ∧ a * z + b * y - c * x + d * 1073741824 ≤ 1206964704631586816 := by omega
  have e3 : qz a b c d 1073741824 x y z = a * z + b * y - c * x + d * 1073741824 := by unfold qz; rfl
  have f3 := near_off (qz a b c d 1073741824 x y z)
  have p3 : -1124073477 ≤ mz a b c d 1073741824 x y z ∧ mz a b c d 1073741824 x y z ≤ 1124073477 := nearQ_abs (B := 1124073477) (by rw [e3]; omega) (by rw [e3]; omega)
  have r3 : -536870912 ≤ 1073741824 * mz a b c d 1073741824 x y z - (a * z + b * y - c * x + d * 1073741824) ∧ 1073741824 * mz a b c d 1073741824 x y z - (a * z + b * y - c * x + d * 1073741824) ≤ 536870912 := by unfold mz; rw [← e3]; omega
  clear qax qay qaz qbx qby qbz qcx qcy qcz qdx qdy qdz e0 e1 e2 e3 f0 f1 f2 f3
  generalize mw a b c d 1073741824 x y z = P0 at *
  generalize mx a b c d 1073741824 x y z = P1 at *
  generalize my a b c d 1073741824 x y z = P2 at *
  generalize mz a b c d 1073741824 x y z = P3 at *
  have z1 := sq4_pos hP0
  obtain ⟨M, m1, m2⟩ := exists_sqrt (sq4 P0 P1 P2 P3 * 1099511627776)
  obtain ⟨k0, k1, k2, k3, u0, u1, u2, u3, g0, g1, g2, g3⟩ := hu
  obtain ⟨j0, j1, j2, j3⟩ := le_sq4 P0 P1 P2 P3
  have E0 := root_sgd u0 (unit_k_le z1 j0 u0) m1 m2
  have E1 := root_sgd u1 (unit_k_le z1 j1 u1) m1 m2
  have E2 := root_sgd u2 (unit_k_le z1 j2 u2) m1 m2
  have E3 := root_sgd u3 (unit_k_le z1 j3 u3) m1 m2
  rw [← g0] at E0; rw [← g1] at E1; rw [← g2] at E2; rw [← g3] at E3
  clear g0 g1 g2 g3 u0 u1 u2 u3 j0 j1 j2 j3
  have nt := (sq4_int P0 P1 P2 P3).symm
  have mI : (M : Int) * M ≤ ((sq4 P0 P1 P2 P3 : Nat) : Int) * 1099511627776 := by
    have h := m1
    have e : ((M * M : Nat) : Int) = (M : Int) * M := by simp
    rw [← e]; generalize M * M = Q at h ⊢; omega
  have mJ : ((sq4 P0 P1 P2 P3 : Nat) : Int) * 1099511627776 < ((M : Int) + 1) * (M + 1) := by
    have h := m2
    have e : (((M + 1) * (M + 1) : Nat) : Int) = ((M : Int) + 1) * (M + 1) := by simp
    rw [← e]; generalize (M + 1) * (M + 1) = Q at h ⊢; omega
  have hM0 : (0 : Int) ≤ M := by omega
  generalize ((sq4 P0 P1 P2 P3 : Nat) : Int) = S at *
  generalize (M : Int) = m at *
  clear m1 m2 z1
  have y0 := prod_in p0 p0; have y1 := prod_in p1 p1; have y2 := prod_in p2 p2; have y3 := prod_in p3 p3
  have hMu : m ≤ 2357397852516351 := by
    apply Int.le_of_not_gt
    intro hc
    have g := Int.mul_le_mul (show 2357397852516351 ≤ m by omega) (show 2357397852516351 ≤ m by omega) (by decide) hM0
    omega
  have EB : ∀ v : Int, -(m + 2147483649) ≤ v ∧ v ≤ m + 2147483649 → -2357400000000000 ≤ v ∧ v ≤ 2357400000000000 := fun v hv => by omega
  have G1 := tau_near (L := 1) (a := a * 1073741824 - b * x - c * y - d * z) (b := a * x + b * 1073741824 + c * z - d * y) (c := a * y - b * z + c * 1073741824 + d * x) (d := a * z + b * y - c * x + d * 1073741824) (X0 := 1073741824 * P0) (X1 := 1073741824 * P1) (X2 := 1073741824 * P2) (X3 := 1073741824 * P3) (A := 1206964704631586816) (E := 536870912) (by decide) l0 l1 l2 l3 (by rw [Int.one_mul]; exact r0) (by rw [Int.one_mul]; exact r1) (by rw [Int.one_mul]; exact r2) (by rw [Int.one_mul]; exact r3)
  have G2 := tau_near (L := 2251799813685248) (a := P0) (b := P1) (c := P2) (d := P3) (X0 := 2 * m * n0) (X1 := 2 * m * n1) (X2 := 2 * m * n2) (X3 := 2 * m * n3) (A := 1124073477) (E := 2357400000000000) (by decide) p0 p1 p2 p3 (by rw [mn2]; exact EB _ E0) (by rw [mn2]; exact EB _ E1) (by rw [mn2]; exact EB _ E2) (by rw [mn2]; exact EB _ E3)
  obtain ⟨sc0, sc1, sc2⟩ := tau_scale 1073741824 P0 P1 P2 P3
  obtain ⟨sd0, sd1, sd2⟩ := tau_scale (2 * m) n0 n1 n2 n3
  obtain ⟨la0, la1, la2⟩ := tau_lean 1073741824 a b c d x y z
  rw [sc0, sc1, sc2, la0, la1, la2] at G1
  rw [sd0, sd1, sd2] at G2
  obtain ⟨G10, G11, G12⟩ := G1
  obtain ⟨G20, G21, G22⟩ := G2
  have hO := okO_iff.1 h
  have cx := prod_in hx hx; have cy := prod_in hy hy; have cz := prod_in hz hz
  have nx := sq_nonneg x; have ny := sq_nonneg y; have nz := sq_nonneg z
  obtain ⟨F, hF⟩ : ∃ F, F = a * a + b * b + c * c + d * d := ⟨_, rfl⟩
  obtain ⟨C, hC⟩ : ∃ C, C = x * x + y * y + z * z := ⟨_, rfl⟩
  obtain ⟨N, hN⟩ : ∃ N, N = n0 * n0 + n1 * n1 + n2 * n2 + n3 * n3 := ⟨_, rfl⟩
  have bC : 0 ≤ C ∧ C ≤ 844424930131968 := by omega
  have bF : 1152921496016912400 ≤ F ∧ F ≤ 1152921513196781584 := by omega
  have bN : 1152921504606846976 - 2147483657 ≤ N ∧ N ≤ 1152921504606846976 + 2147483656 := by omega
  have bW : F * (1152921504606846976 + C) ≤ 1395689395574161725578578449164926976 ∧ 0 ≤ F * (1152921504606846976 + C) := by
    have u := Int.mul_le_mul bF.2 (show 1152921504606846976 + C ≤ 1152921504606846976 + 844424930131968 by omega) (by omega) (by decide)
    have v := Int.mul_nonneg (show 0 ≤ F by omega) (show 0 ≤ 1152921504606846976 + C by omega)
    omega
  have sqI := lean_sq 1073741824 a b c d x y z
  rw [← hF, ← hC] at sqI
  have LM := lean_M (FW := F * (1152921504606846976 + C)) (N := N) (S := S) (M := m) bN ⟨bW.2, bW.1⟩ sqI nt l0 l1 l2 l3 r0 r1 r2 r3 hM0 hMu mI mJ
  obtain ⟨H, hH⟩ : ∃ H, H = 1152921504606846976 * (4 * (m * m) * N) - 5070602400912917605986812821504 * (F * (1152921504606846976 + C)) := ⟨_, rfl⟩
  rw [← hH] at LM
  have hn4 : ((sq4 n0 n1 n2 n3 : Nat) : Int) = N := by rw [hN, sq4_int]
  have hf4 : ((sq4 a b c d : Nat) : Int) = F := by rw [hF, sq4_int]
  obtain ⟨st0, st1, st2⟩ := sh_tau n0 n1 n2 n3
  obtain ⟨ss0, ss1, ss2⟩ := sh_tau a b c d
  rw [hn4] at st0 st1 st2
  rw [hf4] at ss0 ss1 ss2
  have N0 : 0 < N := by omega
  have F0 : 0 < F := by omega
  have Rt0 := near_rest (1073741824 * tx n0 n1 n2 n3) N0
  have Rt1 := near_rest (1073741824 * ty n0 n1 n2 n3) N0
  have Rt2 := near_rest (1073741824 * tz n0 n1 n2 n3) N0
  have Rs0 := near_rest (1073741824 * tx a b c d) F0
  have Rs1 := near_rest (1073741824 * ty a b c d) F0
  have Rs2 := near_rest (1073741824 * tz a b c d) F0
  rw [← st0] at Rt0; rw [← st1] at Rt1; rw [← st2] at Rt2
  rw [← ss0] at Rs0; rw [← ss1] at Rs1; rw [← ss2] at Rs2
  clear st0 st1 st2 ss0 ss1 ss2 hn4 hf4 sqI r0 r1 r2 r3 l0 l1 l2 l3 p0 p1 p2 p3 E0 E1 E2 E3 EB mI mJ nt y0 y1 y2 y3 sc0 sc1 sc2 sd0 sd1 sd2 la0 la1 la2 cx cy cz hP0
  generalize sh0 a b c d = s0 at *
  generalize sh0 n0 n1 n2 n3 = t0 at *
  generalize sh1 a b c d = s1 at *
  generalize sh1 n0 n1 n2 n3 = t1 at *
  generalize sh2 a b c d = s2 at *
  generalize sh2 n0 n1 n2 n3 = t2 at *
  rw [← hC] at G10 G11 G12 ⊢
  rw [show (1073741824 : Int) * 1073741824 = 1152921504606846976 by decide, show (2 : Int) * 1073741824 = 2147483648 by decide] at G10 G11 G12
  generalize tx a b c d = X0 at *
  generalize tx n0 n1 n2 n3 = Y0 at *
  generalize tx P0 P1 P2 P3 = Z0 at *
  generalize ty a b c d = X1 at *
  generalize ty n0 n1 n2 n3 = Y1 at *
  generalize ty P0 P1 P2 P3 = Z1 at *
  generalize tz a b c d = X2 at *
  generalize tz n0 n1 n2 n3 = Y2 at *
  generalize tz P0 P1 P2 P3 = Z2 at *
  have BO0 := (lean_off (C := C) (R := 576460756598390792) (v0 := (1073741824 * X0 - F * s0)) (v1 := (1073741824 * X1 - F * s1)) (v2 := (1073741824 * X2 - F * s2)) bC (by decide) (by omega) (by omega) (by omega) hx hy hz).1
  have BL0 := b_lin0 1152921504606846976 2147483648 1073741824 F X0 X1 X2 s0 s1 s2 x y z
  rw [← hC] at BL0
  have J0 : -34587645138205409280 ≤ t0 * (1152921504606846976 + C) - ((1152921504606846976 - C) * s0 + 2 * (x * s0 + y * s1 + z * s2) * x + 2147483648 * (s1 * z - s2 * y)) ∧ t0 * (1152921504606846976 + C) - ((1152921504606846976 - C) * s0 + 2 * (x * s0 + y * s1 + z * s2) * x + 2147483648 * (s1 * z - s2 * y)) ≤ 34587645138205409280 := by
    refine comp_t (F := F) (n := N) (m4 := 4 * (m * m)) (tn := Y0) (tP := Z0) (tp := (1152921504606846976 - C) * X0 + 2 * (x * X0 + y * X1 + z * X2) * x + 2147483648 * (X1 * z - X2 * y)) (Br := (1152921504606846976 - C) * (1073741824 * X0 - F * s0) + 2 * (x * (1073741824 * X0 - F * s0) + y * (1073741824 * X1 - F * s1) + z * (1073741824 * X2 - F * s2)) * x + 2147483648 * ((1073741824 * X1 - F * s1) * z - (1073741824 * X2 - F * s2) * y)) (H := H) (E1 := 1152921504606846976 * Z0 - ((1152921504606846976 - C) * X0 + 2 * (x * X0 + y * X1 + z * X2) * x + 2147483648 * (X1 * z - X2 * y))) (E2 := 4 * (m * m) * Y0 - 5070602400912917605986812821504 * Z0) (r := 2147483648 * Y0 - 2 * (N * t0)) bF.1 bF.2 (by have := Int.mul_nonneg hM0 hM0; omega) (by omega) (by omega) (by omega) (by omega) BL0 (by omega) bW.1 tn0 ?_ ?_ BO0 LM
    · have e : 1 * 1 * ((1152921504606846976 - C) * X0 + 2 * (x * X0 + y * X1 + z * X2) * x + 2147483648 * (X1 * z - X2 * y)) = (1152921504606846976 - C) * X0 + 2 * (x * X0 + y * X1 + z * X2) * x + 2147483648 * (X1 * z - X2 * y) := by rw [Int.one_mul, Int.one_mul]
      clear BL0 BO0
      omega
    · have e : 2 * m * (2 * m) * Y0 = 4 * (m * m) * Y0 := by grind
      rw [e] at G20
      generalize 4 * (m * m) * Y0 = V at *
      omega
  have BO1 := (lean_off (C := C) (R := 576460756598390792) (v0 := (1073741824 * X0 - F * s0)) (v1 := (1073741824 * X1 - F * s1)) (v2 := (1073741824 * X2 - F * s2)) bC (by decide) (by omega) (by omega) (by omega) hx hy hz).2.1
  have BL1 := b_lin1 1152921504606846976 2147483648 1073741824 F X0 X1 X2 s0 s1 s2 x y z
  rw [← hC] at BL1
  have J1 : -34587645138205409280 ≤ t1 * (1152921504606846976 + C) - ((1152921504606846976 - C) * s1 + 2 * (x * s0 + y * s1 + z * s2) * y + 2147483648 * (s2 * x - s0 * z)) ∧ t1 * (1152921504606846976 + C) - ((1152921504606846976 - C) * s1 + 2 * (x * s0 + y * s1 + z * s2) * y + 2147483648 * (s2 * x - s0 * z)) ≤ 34587645138205409280 := by
    refine comp_t (F := F) (n := N) (m4 := 4 * (m * m)) (tn := Y1) (tP := Z1) (tp := (1152921504606846976 - C) * X1 + 2 * (x * X0 + y * X1 + z * X2) * y + 2147483648 * (X2 * x - X0 * z)) (Br := (1152921504606846976 - C) * (1073741824 * X1 - F * s1) + 2 * (x * (1073741824 * X0 - F * s0) + y * (1073741824 * X1 - F * s1) + z * (1073741824 * X2 - F * s2)) * y + 2147483648 * ((1073741824 * X2 - F * s2) * x - (1073741824 * X0 - F * s0) * z)) (H := H) (E1 := 1152921504606846976 * Z1 - ((1152921504606846976 - C) * X1 + 2 * (x * X0 + y * X1 + z * X2) * y + 2147483648 * (X2 * x - X0 * z))) (E2 := 4 * (m * m) * Y1 - 5070602400912917605986812821504 * Z1) (r := 2147483648 * Y1 - 2 * (N * t1)) bF.1 bF.2 (by have := Int.mul_nonneg hM0 hM0; omega) (by omega) (by omega) (by omega) (by omega) BL1 (by omega) bW.1 tn1 ?_ ?_ BO1 LM
    · have e : 1 * 1 * ((1152921504606846976 - C) * X1 + 2 * (x * X0 + y * X1 + z * X2) * y + 2147483648 * (X2 * x - X0 * z)) = (1152921504606846976 - C) * X1 + 2 * (x * X0 + y * X1 + z * X2) * y + 2147483648 * (X2 * x - X0 * z) := by rw [Int.one_mul, Int.one_mul]
      clear BL0 BO0
      omega
    · have e : 2 * m * (2 * m) * Y1 = 4 * (m * m) * Y1 := by grind
      rw [e] at G21
      generalize 4 * (m * m) * Y1 = V at *
      omega
  have BO2 := (lean_off (C := C) (R := 576460756598390792) (v0 := (1073741824 * X0 - F * s0)) (v1 := (1073741824 * X1 - F * s1)) (v2 := (1073741824 * X2 - F * s2)) bC (by decide) (by omega) (by omega) (by omega) hx hy hz).2.2
  have BL2 := b_lin2 1152921504606846976 2147483648 1073741824 F X0 X1 X2 s0 s1 s2 x y z
  rw [← hC] at BL2
  have J2 : -34587645138205409280 ≤ t2 * (1152921504606846976 + C) - ((1152921504606846976 - C) * s2 + 2 * (x * s0 + y * s1 + z * s2) * z + 2147483648 * (s0 * y - s1 * x)) ∧ t2 * (1152921504606846976 + C) - ((1152921504606846976 - C) * s2 + 2 * (x * s0 + y * s1 + z * s2) * z + 2147483648 * (s0 * y - s1 * x)) ≤ 34587645138205409280 := by
    refine comp_t (F := F) (n := N) (m4 := 4 * (m * m)) (tn := Y2) (tP := Z2) (tp := (1152921504606846976 - C) * X2 + 2 * (x * X0 + y * X1 + z * X2) * z + 2147483648 * (X0 * y - X1 * x)) (Br := (1152921504606846976 - C) * (1073741824 * X2 - F * s2) + 2 * (x * (1073741824 * X0 - F * s0) + y * (1073741824 * X1 - F * s1) + z * (1073741824 * X2 - F * s2)) * z + 2147483648 * ((1073741824 * X0 - F * s0) * y - (1073741824 * X1 - F * s1) * x)) (H := H) (E1 := 1152921504606846976 * Z2 - ((1152921504606846976 - C) * X2 + 2 * (x * X0 + y * X1 + z * X2) * z + 2147483648 * (X0 * y - X1 * x))) (E2 := 4 * (m * m) * Y2 - 5070602400912917605986812821504 * Z2) (r := 2147483648 * Y2 - 2 * (N * t2)) bF.1 bF.2 (by have := Int.mul_nonneg hM0 hM0; omega) (by omega) (by omega) (by omega) (by omega) BL2 (by omega) bW.1 tn2 ?_ ?_ BO2 LM
    · have e : 1 * 1 * ((1152921504606846976 - C) * X2 + 2 * (x * X0 + y * X1 + z * X2) * z + 2147483648 * (X0 * y - X1 * x)) = (1152921504606846976 - C) * X2 + 2 * (x * X0 + y * X1 + z * X2) * z + 2147483648 * (X0 * y - X1 * x) := by rw [Int.one_mul, Int.one_mul]
      clear BL0 BO0
      omega
    · have e : 2 * m * (2 * m) * Y2 = 4 * (m * m) * Y2 := by grind
      rw [e] at G22
      generalize 4 * (m * m) * Y2 = V at *
      omega
  exact ⟨J0, J1, J2⟩
end Go.Proofs.Ytmbdcgijjpcppaa
