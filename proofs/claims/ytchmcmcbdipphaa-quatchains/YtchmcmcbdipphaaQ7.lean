/- quat: turned, turn. -/
import Derived.Test.YtchmcmcbdipphaaQNum
import Derived.Test.YtchmcmcbdipphaaQ5
import Derived.Test.YtchmcmcbdipphaaQ6
namespace Go.Proofs.Ytchmcmcbdipphaa
open Go.RowKit Go.Shelf

theorem neg_okW {a : Int} (h : okW a = true) : okW (-a) = true := by unfold okW at *; simp at *; omega
theorem turned_any (a b c d x y z : Int) (w : World) (h : ok4 a b c d = true) (k : ok3 x y z = true) (hq : ¬ (a = 0 ∧ b = 0 ∧ c = 0 ∧ d = 0)) :
    Calls Try.prog 59 #[.agg #[.int .i64 a, .int .i64 b, .int .i64 c, .int .i64 d], .agg #[.int .i64 x, .int .i64 y, .int .i64 z]] w fun e w' => e = .returned (qres 0 (nearI (tnx a b c d x y z) (sq4 a b c d)) (nearI (tny a b c d x y z) (sq4 a b c d)) (nearI (tnz a b c d x y z) (sq4 a b c d))) ∧ Ext w w' := by
  have bd := turn_bounds h k hq
  have n0 := sq4_pos hq
  have h' := h; have k' := k
  unfold ok4 at h'; unfold ok3 at k'
  simp only [Bool.and_eq_true] at h' k'
  obtain ⟨ha, hb, hc, hd⟩ := h'
  obtain ⟨hx, hy, hz⟩ := k'
  have n1 := sq4_lt ha hb hc hd
  have C := qconj_any a b c d
  rw [neg64 hb, neg64 hc, neg64 hd] at C
  have z0 : okW 0 = true := by decide
  have P := fun w => product64_any 0 x y z a (-b) (-c) (-d) w z0 hx hy hz ha (neg_okW hb) (neg_okW hc) (neg_okW hd)
  have X := fun v w hv => productW_any a b c d (qw 0 x y z a (-b) (-c) (-d)) (qx 0 x y z a (-b) (-c) (-d)) (qy 0 x y z a (-b) (-c) (-d)) (qz 0 x y z a (-b) (-c) (-d)) v w ha hb hc hd hv
  have e0 : nearI 0 (sq4 a b c d : Nat) = 0 := IsNear.unique (by omega) (nearI_spec 0 _ (by omega)) ⟨by omega, by omega, fun _ => rfl⟩
  have b0 := bd 0 (Or.inl rfl)
  have b1 := bd _ (Or.inr (Or.inl rfl))
  have b2 := bd _ (Or.inr (Or.inr (Or.inl rfl)))
  have b3 := bd _ (Or.inr (Or.inr (Or.inr rfl)))
  obtain ⟨E0, E1, E2, E3, ee, hE⟩ := qres_shape 0 (nearI (tnx a b c d x y z) (sq4 a b c d)) (nearI (tny a b c d x y z) (sq4 a b c d)) (nearI (tnz a b c d x y z) (sq4 a b c d))
  rw [hE]
  refine turned_raw a b c d x y z (-b) (-c) (-d) _ _ _ _ _ 0 (tnx a b c d x y z) (tny a b c d x y z) (tnz a b c d x y z) E0 E1 E2 E3 ee w (fun w' => squares_any a b c d w' ha hb hc hd) C P (fun v w' hv => by
    have := X v w' hv
    have e : qw a b c d (qw 0 x y z a (-b) (-c) (-d)) (qx 0 x y z a (-b) (-c) (-d)) (qy 0 x y z a (-b) (-c) (-d)) (qz 0 x y z a (-b) (-c) (-d)) = 0 := tnw_zero a b c d x y z
    rw [e] at this
    exact this) ?_
  intro g b0' b1' b2' v w' hv hN hG
  rw [← hE]
  obtain ⟨l0, l1, l2, l3, l4, l5, l6, l7, l8, l9, l10, l11, rfl, i0, i1, i2, i3⟩ := hv
  have T := throughT_any l0 l1 l2 l3 l4 l5 l6 l7 l8 l9 l10 l11 (nearI 0 (sq4 a b c d)) (nearI (tnx a b c d x y z) (sq4 a b c d)) (nearI (tny a b c d x y z) (sq4 a b c d)) (nearI (tnz a b c d x y z) (sq4 a b c d)) g w' (near_inW n0 b0.1) (near_inW n0 b1.1) (near_inW n0 b2.1) (near_inW n0 b3.1)
    (fun w2 hx => turned1_any 0 _ _ _ _ _ _ _ g w2 i0 hN (hG.ext hx) n0 n1 b0.1 b0.2)
    (fun w2 hx => turned1_any _ _ _ _ _ _ _ _ g w2 i1 hN (hG.ext hx) n0 n1 b1.1 b1.2)
    (fun w2 hx => turned1_any _ _ _ _ _ _ _ _ g w2 i2 hN (hG.ext hx) n0 n1 b2.1 b2.2)
    (fun w2 hx => turned1_any _ _ _ _ _ _ _ _ g w2 i3 hN (hG.ext hx) n0 n1 b3.1 b3.2)
  rw [e0] at T
  exact T

theorem chk4_yes {a b c d : Int} (h : ok4 a b c d = true) : chk4 a b c d = 0 := by unfold chk4; rw [if_pos h]
theorem chk3_yes {a b c : Int} (h : ok3 a b c = true) : chk3 a b c = 0 := by unfold chk3; rw [if_pos h]
theorem chk4_no {a b c d : Int} (h : ok4 a b c d = false) : chk4 a b c d = 1 := by unfold chk4; rw [h]; rfl
theorem chk3_no {a b c : Int} (h : ok3 a b c = false) : chk3 a b c = 1 := by unfold chk3; rw [h]; rfl
theorem qturn_any (a b c d x y z : Int) (w : World) :
    Calls Try.prog 36 #[.agg #[.int .i64 a, .int .i64 b, .int .i64 c, .int .i64 d], .agg #[.int .i64 x, .int .i64 y, .int .i64 z]] w fun e w' => e = .returned (turnR a b c d x y z) ∧ Ext w w' := by
  have Q := qcheck_any a b c d
  have V := vCheck_any x y z
  unfold turnR
  cases h : ok4 a b c d
  · rw [chk4_no h] at Q
    have R := turn_bad a b c d x y z 1 (chk3 x y z) 1 w rfl Q V (fun g w' hg => cmpOr2 _ _ _ g w' hg rfl)
    exact R
  · rw [chk4_yes h] at Q
    cases k : ok3 x y z
    · rw [chk3_no k] at V
      exact turn_bad a b c d x y z 0 1 1 w rfl Q V (fun g w' hg => cmpOr2 _ _ _ g w' hg rfl)
    · rw [chk3_yes k] at V
      by_cases hq : a = 0 ∧ b = 0 ∧ c = 0 ∧ d = 0
      · rw [if_pos (show (true && true) = true from rfl), if_pos hq]
        obtain ⟨rfl, rfl, rfl, rfl⟩ := hq
        exact turn_zero x y z 0 0 w Q V (fun g w' hg => cmpOr2 _ _ _ g w' hg rfl)
      · rw [if_pos (show (true && true) = true from rfl), if_neg hq]
        have T := fun w' => turned_any a b c d x y z w' h k hq
        have hz : (a == 0 && (b == 0 && (c == 0 && d == 0))) = false := by
          cases hh : (a == 0 && (b == 0 && (c == 0 && d == 0)))
          · rfl
          · exfalso; simp at hh; exact hq hh
        obtain ⟨s1, hs1⟩ : ∃ s, s = nearI (tnx a b c d x y z) (sq4 a b c d) := ⟨_, rfl⟩
        obtain ⟨s2, hs2⟩ : ∃ s, s = nearI (tny a b c d x y z) (sq4 a b c d) := ⟨_, rfl⟩
        obtain ⟨s3, hs3⟩ : ∃ s, s = nearI (tnz a b c d x y z) (sq4 a b c d) := ⟨_, rfl⟩
        rw [← hs1, ← hs2, ← hs3] at T
        rw [← hs1, ← hs2, ← hs3]
        clear hs1 hs2 hs3
        unfold vres
        have z0 : okW 0 = true := by decide
        have e : ok4 0 s1 s2 s3 = ok3 s1 s2 s3 := by unfold ok4 ok3; rw [z0]; rfl
        unfold qres at T
        rw [e] at T
        cases hs : ok3 s1 s2 s3
        · rw [hs] at T
          exact turn_yes a b c d x y z 0 0 0 0 0 0 0 2 w rfl hz Q V (fun g w' hg => cmpOr2 _ _ _ g w' hg rfl) T
        · rw [hs] at T
          exact turn_yes a b c d x y z 0 0 0 0 s1 s2 s3 0 w rfl hz Q V (fun g w' hg => cmpOr2 _ _ _ g w' hg rfl) T
theorem turnR_shape (a b c d x y z : Int) : ∃ s0 s1 s2 e : Int, turnR a b c d x y z = .tuple #[.agg #[.int .i64 s0, .int .i64 s1, .int .i64 s2], .int .i64 e] := by
  unfold turnR
  split
  · split
    · exact ⟨_, _, _, _, rfl⟩
    · exact vres_shape _ _ _
  · exact ⟨_, _, _, _, rfl⟩
end Go.Proofs.Ytchmcmcbdipphaa
