/- quat: what through tells. Plain numbers: a vector that is turned. -/
import Derived.Test.YtoeecldhbabmbaaGreatMg3
import Derived.Test.YtoeecldhbabmbaaGreatMg10
import Derived.Test.YtoeecldhbabmbaaGreatQ2m
import Derived.Test.YtoeecldhbabmbaaGreatMg6
import Derived.Test.YtoeecldhbabmbaaGreatW8m
open Go.Value renaming int → J, agg → zG
open Go.IntKind renaming i64 → zq
namespace Go.Proofs.YtoeecldhbabmbaaGreat
open Go.RowKit Go.Shelf
def thr4 (r0 e0 r1 e1 r2 e2 r3 e3 : Int) : Value :=
  if e0 = 0 then if e1 = 0 then if e2 = 0 then if e3 = 0 then .tuple #[zG #[J zq r0, J zq r1, J zq r2, J zq r3], J zq 0] else .tuple #[zG #[J zq 0, J zq 0, J zq 0, J zq 0], J zq e3] else .tuple #[zG #[J zq 0, J zq 0, J zq 0, J zq 0], J zq e2] else .tuple #[zG #[J zq 0, J zq 0, J zq 0, J zq 0], J zq e1] else .tuple #[zG #[J zq 0, J zq 0, J zq 0, J zq 0], J zq e0]
def qres (s0 s1 s2 s3 : Int) : Value := if ok4 s0 s1 s2 s3 then .tuple #[zG #[J zq s0, J zq s1, J zq s2, J zq s3], J zq 0] else .tuple #[zG #[J zq 0, J zq 0, J zq 0, J zq 0], J zq 2]
theorem fit4_yes {s : Int} (h : okW s = true) : fitR s = (s, 0) := by unfold fitR; rw [if_pos h]
theorem fit4_no {s : Int} (h : okW s = false) : fitR s = (0, 2) := by unfold fitR; rw [h]; rfl
theorem thr4_fit (s0 s1 s2 s3 : Int) : thr4 (fitR s0).1 (fitR s0).2 (fitR s1).1 (fitR s1).2 (fitR s2).1 (fitR s2).2 (fitR s3).1 (fitR s3).2 = qres s0 s1 s2 s3 := by
  unfold thr4 qres ok4
  cases h0 : okW s0
  · rw [fit4_no h0]; rfl
  · rw [fit4_yes h0]
    cases h1 : okW s1
    · rw [fit4_no h1]; rfl
    · rw [fit4_yes h1]
      cases h2 : okW s2
      · rw [fit4_no h2]; rfl
      · rw [fit4_yes h2]
        cases h3 : okW s3
        · rw [fit4_no h3]; rfl
        · rw [fit4_yes h3]; rfl
theorem qres_shape (s0 s1 s2 s3 : Int) : ∃ x y z t e : Int, qres s0 s1 s2 s3 = .tuple #[zG #[J zq x, J zq y, J zq z, J zq t], J zq e] := by
  unfold qres; split
  · exact ⟨_, _, _, _, _, rfl⟩
  · exact ⟨_, _, _, _, _, rfl⟩
def tnw (a b c d x y z : Int) : Int := qw a b c d (qw 0 x y z a (-b) (-c) (-d)) (qx 0 x y z a (-b) (-c) (-d)) (qy 0 x y z a (-b) (-c) (-d)) (qz 0 x y z a (-b) (-c) (-d))
def tnx (a b c d x y z : Int) : Int := qx a b c d (qw 0 x y z a (-b) (-c) (-d)) (qx 0 x y z a (-b) (-c) (-d)) (qy 0 x y z a (-b) (-c) (-d)) (qz 0 x y z a (-b) (-c) (-d))
def tny (a b c d x y z : Int) : Int := qy a b c d (qw 0 x y z a (-b) (-c) (-d)) (qx 0 x y z a (-b) (-c) (-d)) (qy 0 x y z a (-b) (-c) (-d)) (qz 0 x y z a (-b) (-c) (-d))
def tnz (a b c d x y z : Int) : Int := qz a b c d (qw 0 x y z a (-b) (-c) (-d)) (qx 0 x y z a (-b) (-c) (-d)) (qy 0 x y z a (-b) (-c) (-d)) (qz 0 x y z a (-b) (-c) (-d))
theorem tnw_zero (a b c d x y z : Int) : tnw a b c d x y z = 0 := by unfold tnw qw qx qy qz; grind
theorem tnx_eq (a b c d x y z : Int) : tnx a b c d x y z = (a * a + b * b - c * c - d * d) * x + 2 * (b * c - a * d) * y + 2 * (b * d + a * c) * z := by unfold tnx qw qx qy qz; grind
theorem tny_eq (a b c d x y z : Int) : tny a b c d x y z = 2 * (b * c + a * d) * x + (a * a - b * b + c * c - d * d) * y + 2 * (c * d - a * b) * z := by unfold tny qw qx qy qz; grind
theorem tnz_eq (a b c d x y z : Int) : tnz a b c d x y z = 2 * (b * d - a * c) * x + 2 * (c * d + a * b) * y + (a * a - b * b - c * c + d * d) * z := by unfold tnz qw qx qy qz; grind
theorem tn_sq (a b c d x y z : Int) : tnx a b c d x y z * tnx a b c d x y z + tny a b c d x y z * tny a b c d x y z + tnz a b c d x y z * tnz a b c d x y z = (a * a + b * b + c * c + d * d) * (a * a + b * b + c * c + d * d) * (x * x + y * y + z * z) := by
  rw [tnx_eq, tny_eq, tnz_eq]; grind
theorem word_sq {x : Int} (h : okW x = true) : x * x < 1237940039285380274899124224 := by
  unfold okW at h; simp at h
  have h1 : x.natAbs < 35184372088832 := by omega
  have h2 : x.natAbs * x.natAbs ≤ 35184372088831 * 35184372088831 := Nat.mul_le_mul (by omega) (by omega)
  have h3 : x * x = ((x.natAbs * x.natAbs : Nat) : Int) := by rw [Int.natCast_mul]; exact (Int.natAbs_mul_self' x).symm
  omega
theorem sq_nonneg (x : Int) : 0 ≤ x * x := by
  have h3 : x * x = ((x.natAbs * x.natAbs : Nat) : Int) := by rw [Int.natCast_mul]; exact (Int.natAbs_mul_self' x).symm
  omega
theorem lt_of_sq {p m : Int} (h : p * p < m * m) : p.natAbs < m.natAbs := by
  apply Nat.lt_of_not_le
  intro hc
  have h1 : m.natAbs * m.natAbs ≤ p.natAbs * p.natAbs := Nat.mul_le_mul hc hc
  have h2 : p * p = ((p.natAbs * p.natAbs : Nat) : Int) := by rw [Int.natCast_mul]; exact (Int.natAbs_mul_self' p).symm
  have h3 : m * m = ((m.natAbs * m.natAbs : Nat) : Int) := by rw [Int.natCast_mul]; exact (Int.natAbs_mul_self' m).symm
  omega
theorem sq4_lt {a b c d : Int} (ha : okW a = true) (hb : okW b = true) (hc : okW c = true) (hd : okW d = true) : sq4 a b c d < 4951760157141521099596496896 := by
  have h := sq4_int a b c d
  have h1 := word_sq ha; have h2 := word_sq hb; have h3 := word_sq hc; have h4 := word_sq hd
  omega
theorem sq4_pos {a b c d : Int} (h : ¬ (a = 0 ∧ b = 0 ∧ c = 0 ∧ d = 0)) : 0 < sq4 a b c d := by
  unfold sq4
  by_cases ha : a = 0
  · by_cases hb : b = 0
    · by_cases hc : c = 0
      · have hd : d ≠ 0 := fun hd => h ⟨ha, hb, hc, hd⟩
        have : 0 < d.natAbs * d.natAbs := Nat.mul_pos (by omega) (by omega)
        omega
      · have : 0 < c.natAbs * c.natAbs := Nat.mul_pos (by omega) (by omega)
        omega
    · have : 0 < b.natAbs * b.natAbs := Nat.mul_pos (by omega) (by omega)
      omega
  · have : 0 < a.natAbs * a.natAbs := Nat.mul_pos (by omega) (by omega)
    omega
theorem turn_bound {p : Int} {n : Nat} {s : Int} (hn : 0 < n) (hs : s < 4951760157141521099596496896) (h : p * p ≤ (n : Int) * n * s) (hn2 : n < 4951760157141521099596496896) : p.natAbs / n < 70368744177664 ∧ p.natAbs < 98079714615416886934934209737619787751599303819750539264 := by
  have h1 : 0 < (n : Int) * n := Int.mul_pos (by omega) (by omega)
  have h2 : (n : Int) * n * s < (n : Int) * n * 4951760157141521099596496896 := Int.mul_lt_mul_of_pos_left hs h1
  have h3 : (n : Int) * n * 4951760157141521099596496896 = ((n : Int) * 70368744177664) * ((n : Int) * 70368744177664) := by grind
  have h4 := lt_of_sq (p := p) (m := (n : Int) * 70368744177664) (by omega)
  have h5 : ((n : Int) * 70368744177664).natAbs = 70368744177664 * n := by omega
  rw [h5] at h4
  exact ⟨(Nat.div_lt_iff_lt_mul hn).2 h4, by omega⟩
theorem near_le {p : Int} {n : Nat} (hn : 0 < n) (h : p.natAbs / n < 70368744177664) : (nearI p n).natAbs ≤ 70368744177664 := by
  have hk := nearI_spec p n (by omega)
  by_cases hp : 0 ≤ p
  · have e : p = ((p.natAbs : Nat) : Int) := by omega
    rw [e] at hk
    have := over_near_le (p := p.natAbs) hk hn h
    rw [← e] at this
    exact this
  · have e : -p = ((p.natAbs : Nat) : Int) := by omega
    have hk2 := hk.neg
    rw [e] at hk2
    have := over_near_le (p := p.natAbs) hk2 hn h
    omega
theorem near_inW {p : Int} {n : Nat} (hn : 0 < n) (h : p.natAbs / n < 70368744177664) : InW (nearI p n) := inW_of (by have := near_le hn h; omega)
theorem turn_bounds {a b c d x y z : Int} (h : ok4 a b c d = true) (k : ok3 x y z = true) (hq : ¬ (a = 0 ∧ b = 0 ∧ c = 0 ∧ d = 0)) (p : Int) (hp : p = 0 ∨ p = tnx a b c d x y z ∨ p = tny a b c d x y z ∨ p = tnz a b c d x y z) :
    p.natAbs / sq4 a b c d < 70368744177664 ∧ p.natAbs < 98079714615416886934934209737619787751599303819750539264 := by
  unfold ok4 at h; unfold ok3 at k
  simp only [Bool.and_eq_true] at h k
  obtain ⟨ha, hb, hc, hd⟩ := h
  obtain ⟨hx, hy, hz⟩ := k
  have sx := word_sq hx; have sy := word_sq hy; have sz := word_sq hz
  have e := tn_sq a b c d x y z
  rw [sq4_int] at e
  have q1 := sq_nonneg (tnx a b c d x y z)
  have q2 := sq_nonneg (tny a b c d x y z)
  have q3 := sq_nonneg (tnz a b c d x y z)
  refine turn_bound (s := x * x + y * y + z * z) (sq4_pos hq) (by omega) ?_ (sq4_lt ha hb hc hd)
  rw [← e]
  rcases hp with rfl | rfl | rfl | rfl <;> omega
def turnR (a b c d x y z : Int) : Value :=
  if ok4 a b c d && ok3 x y z then
    if a = 0 ∧ b = 0 ∧ c = 0 ∧ d = 0 then .tuple #[zG #[J zq 0, J zq 0, J zq 0], J zq 3]
    else vres (nearI (tnx a b c d x y z) (sq4 a b c d)) (nearI (tny a b c d x y z) (sq4 a b c d)) (nearI (tnz a b c d x y z) (sq4 a b c d))
  else vbad
end Go.Proofs.YtoeecldhbabmbaaGreat
