/- quat: Mul of any two. fuse: numbersOf, isOrientation, Check, Fresh. fuse: the leaves of its steps. -/
import Derived.Test.YtfmalpnlencmbaaGreatMg23p
import Derived.Test.YtfmalpnlencmbaaGreatQ10mp
import Derived.Test.YtfmalpnlencmbaaGreatMg3p
import Derived.Test.YtfmalpnlencmbaaGreatMg0p
import Derived.Test.YtfmalpnlencmbaaGreatMg10p
namespace Go.Proofs.YtfmalpnlencmbaaGreat
open Go.RowKit Go.Shelf

theorem rootq_ex (p n : Nat) (h0 : 0 < n) : ∃ k, RootQ p n k := by
  obtain ⟨k, k1, k2⟩ := exists_sqrt (p / n)
  have hm : k * k * n ≤ p := by rw [← Nat.le_div_iff_mul_le h0]; exact k1
  have hM : p < (k + 1) * (k + 1) * n := by rw [← Nat.div_lt_iff_lt_mul h0]; exact k2
  by_cases h : (2 * k + 1) * (2 * k + 1) * n < 4 * p ∨ (2 * k + 1) * (2 * k + 1) * n = 4 * p ∧ k % 2 = 1
  · exact ⟨k + 1, rootQ_up hM h⟩
  · exact ⟨k, rootQ_down h0 hm (by omega)⟩
def qmulR (a b c d x y z t : Int) : Value := if ok4 a b c d && ok4 x y z t then qres (nearQ (qw a b c d x y z t)) (nearQ (qx a b c d x y z t)) (nearQ (qy a b c d x y z t)) (nearQ (qz a b c d x y z t)) else .tuple #[.agg #[.int .i64 0, .int .i64 0, .int .i64 0, .int .i64 0], .int .i64 1]
theorem chk4_cases (a b c d : Int) : chk4 a b c d = 0 ∧ ok4 a b c d = true ∨ chk4 a b c d = 1 ∧ ok4 a b c d = false := by
  unfold chk4; cases ok4 a b c d <;> simp
theorem prod_lt {a b : Int} (ha : okW a = true) (hb : okW b = true) : -1237940039285380274899124224 < a * b ∧ a * b < 1237940039285380274899124224 := by
  have h1 := word_abs ha; have h2 := word_abs hb
  have h3 : a.natAbs * b.natAbs ≤ 35184372088831 * 35184372088831 := Nat.mul_le_mul (by omega) (by omega)
  have h4 : (a * b).natAbs = a.natAbs * b.natAbs := Int.natAbs_mul a b
  omega
theorem qMul_any (a b c d x y z t : Int) (w : World) :
    Calls Tryz.prog 34 #[.agg #[.int .i64 a, .int .i64 b, .int .i64 c, .int .i64 d], .agg #[.int .i64 x, .int .i64 y, .int .i64 z, .int .i64 t]] w fun e w' => e = .returned (qmulR a b c d x y z t) ∧ Ext w w' := by
  unfold qmulR
  rcases chk4_cases a b c d with ⟨e1, h1⟩ | ⟨e1, h1⟩
  · rcases chk4_cases x y z t with ⟨e2, h2⟩ | ⟨e2, h2⟩
    · rw [h1, h2]
      have h1' := h1; have h2' := h2
      unfold ok4 at h1' h2'
      simp only [Bool.and_eq_true] at h1' h2'
      obtain ⟨ha, hb, hc, hd⟩ := h1'
      obtain ⟨hx, hy, hz, ht⟩ := h2'
      have q1 := prod_lt ha hx; have q2 := prod_lt hb hy; have q3 := prod_lt hc hz; have q4 := prod_lt hd ht
      have q5 := prod_lt ha hy; have q6 := prod_lt hb hx; have q7 := prod_lt hc ht; have q8 := prod_lt hd hz
      have q9 := prod_lt ha hz; have q10 := prod_lt hb ht; have q11 := prod_lt hc hx; have q12 := prod_lt hd hy
      have q13 := prod_lt ha ht; have q14 := prod_lt hb hz; have q15 := prod_lt hc hy; have q16 := prod_lt hd hx
      have b0 : (qw a b c d x y z t).natAbs < 4951760157141521099596496896 := by unfold qw; omega
      have b1 : (qx a b c d x y z t).natAbs < 4951760157141521099596496896 := by unfold qx; omega
      have b2 : (qy a b c d x y z t).natAbs < 4951760157141521099596496896 := by unfold qy; omega
      have b3 : (qz a b c d x y z t).natAbs < 4951760157141521099596496896 := by unfold qz; omega
      have iw : ∀ z : Int, z.natAbs < 4951760157141521099596496896 → InW (nearQ z) ∧ InW (z + 536870912) ∧ InW z := fun z hz => ⟨inW_of (by unfold nearQ oddQ; omega), inW_of (by omega), inW_of (by omega)⟩
      obtain ⟨E0, E1, E2, E3, ee, hE⟩ := qres_shape (nearQ (qw a b c d x y z t)) (nearQ (qx a b c d x y z t)) (nearQ (qy a b c d x y z t)) (nearQ (qz a b c d x y z t))
      rw [if_pos (show (true && true) = true from rfl), hE]
      refine qMul_yes a b c d x y z t _ _ _ _ E0 E1 E2 E3 ee w (fun a b c d w' => qCheck_any a b c d w') (fun g w' hg => cmpOr2 _ _ _ g w' hg (by rw [e1, e2]; rfl)) (fun a b c d w' => qof_any a b c d w') (fun w' => product64_any a b c d x y z t w' ha hb hc hd hx hy hz ht) ?_ (fun w' => asQuat_any _ _ _ _ _ w')
      intro v w' hv
      rw [← hE]
      obtain ⟨l0, l1, l2, l3, l4, l5, l6, l7, l8, l9, l10, l11, rfl, i0, i1, i2, i3⟩ := hv
      exact throughN_any l0 l1 l2 l3 l4 l5 l6 l7 l8 l9 l10 l11 _ _ _ _ w' (iw _ b0).1 (iw _ b1).1 (iw _ b2).1 (iw _ b3).1
        (fun w2 _ => qinQ30_any _ _ w2 i0 (iw _ b0).2.1 (iw _ b0).2.2) (fun w2 _ => qinQ30_any _ _ w2 i1 (iw _ b1).2.1 (iw _ b1).2.2)
        (fun w2 _ => qinQ30_any _ _ w2 i2 (iw _ b2).2.1 (iw _ b2).2.2) (fun w2 _ => qinQ30_any _ _ w2 i3 (iw _ b3).2.1 (iw _ b3).2.2)
    · rw [h2, Bool.and_false]
      exact qMul_bad a b c d x y z t w (fun a b c d w' => qCheck_any a b c d w') (fun g w' hg => cmpOr2 _ _ _ g w' hg (by rw [e1, e2]; rfl))
  · rw [h1]
    exact qMul_bad a b c d x y z t w (fun a b c d w' => qCheck_any a b c d w') (fun g w' hg => cmpOr2 _ _ _ g w' hg (by rw [e1]; rfl))

end Go.Proofs.YtfmalpnlencmbaaGreat

namespace Go.Proofs.YtfmalpnlencmbaaGreat
open Go.RowKit Go.Shelf
end Go.Proofs.YtfmalpnlencmbaaGreat

namespace Go.Proofs.YtfmalpnlencmbaaGreat
open Go.RowKit Go.Shelf
end Go.Proofs.YtfmalpnlencmbaaGreat
