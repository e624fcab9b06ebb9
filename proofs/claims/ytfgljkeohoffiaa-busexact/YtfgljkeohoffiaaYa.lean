/- The reference's bus: what Do does from region 18 on. -/
import Derived.Test.YtfgljkeohoffiaaGr
namespace Go.Proofs.Ytfgljkeohoffiaa
open Go.RowKit Go.Conc
/-- parts of the code -/
def rgt : List Unit → Code → Code
  | [], c => c
  | _ :: l, .seq _ b => rgt l b
  | _ :: _, c => c
set_option maxRecDepth 20000 in
set_option maxHeartbeats 8000000 in
theorem rdo_tail (w : World) (na nf B : Nat) (f : Flt) (data : List Int) (v : Value) (bd cd : Code) (hbd : Try.f18.body = some bd) (hcd : cd = rgt [(), (), (), (), (), (), (), (), ()] bd) (y0 y1 y2 y3 y6 y7 y9 y10 y11 y12 y13 y14 y15 y16 y17 y18 y19 y20 y21 y22 y23 y24 y25 y26 y27 y28 y29 y30 y31 y32 y33 y34 y35 y36 y37 y38 y39 y40 y41 y42 y43 y44 y45 y46 y47 y48 y49 y50 y51 y52 y53 y54 y55 y56 y57 y58 y59 y60 y61 y62 y63 y64 y65 y66 y67 y68 y69 y70 y71 y72 y73 y74 y75 y76 y77 y78 y79 y80 y81 y82 y83 y84 y85 y86 y87 y88 y89 y90 y91 y92 y93 y94 y95 y96 y97 y98 y99 y100 y101 y102 y103 y104 y105 y106 y107 y108 y109 y110 y111 y112 y113 y114 : Value) (Po : Ending → World → Prop)
    (Ff : F4 w nf 0 f) (Fa : AV w na) (hB : na < B ∧ nf < B) (row : w.ownsRow B Eb 1 v data.length (bv data)) (hix : 0 ≤ f.idx)
    (hP : ∀ (v' : Value) (w' : World), w'.ownsRow B Eb 1 v' (if f.kind = 2 then [] else corr f data).length (bv (if f.kind = 2 then [] else corr f data)) → Tn (fun k => k = na ∨ B ≤ k) w w' → Po (.returned (.agg #[.int .i64 (if f.kind = 2 then 3 else 1), v'])) w') :
    Code.wp Try.prog cd (bodyPost Try.prog Try.f18 Po) { tmps := #[y0, y1, y2, y3, .pointer (some ⟨na, 0, none⟩), .pointer (some ⟨nf, 0, none⟩), y6, y7, v, y9, y10, y11, y12, y13, y14, y15, y16, y17, y18, y19, y20, y21, y22, y23, y24, y25, y26, y27, y28, y29, y30, y31, y32, y33, y34, y35, y36, y37, y38, y39, y40, y41, y42, y43, y44, y45, y46, y47, y48, y49, y50, y51, y52, y53, y54, y55, y56, y57, y58, y59, y60, y61, y62, y63, y64, y65, y66, y67, y68, y69, y70, y71, y72, y73, y74, y75, y76, y77, y78, y79, y80, y81, y82, y83, y84, y85, y86, y87, y88, y89, y90, y91, y92, y93, y94, y95, y96, y97, y98, y99, y100, y101, y102, y103, y104, y105, y106, y107, y108, y109, y110, y111, y112, y113, y114], defers := [] } w := by
  subst hcd
  simp only [Try.f18] at hbd
  injection hbd with hbd
  subst hbd
  simp only [rgt]
  show (let Q : Exit → Act → World → Prop := bodyPost Try.prog Try.f18 Po; Code.wp Try.prog _ Q _ _)
  intro Q
  have HP : Hid _ := hP
  clear hP
  have HR : Hid (w.ownsRow B Eb 1 v data.length (bv data)) := row
  obtain ⟨va, vc, rfl⟩ := row_form row
  clear row
  obtain ⟨f0, f1, f2, f3⟩ := f
  obtain ⟨z0, z1, z2, z3⟩ := Ff.intro
  have HF : Hid (F4 w nf 0 ⟨f0, f1, f2, f3⟩) := Ff
  clear Ff
  obtain ⟨⟨m0, b0⟩, ⟨m1, b1⟩, p0, p1⟩ := Fa
  have HT : Hid (∀ (w9 : World) (st : Int) (u : Value), Tn (fun k => k = na ∨ B ≤ k) w w9 → Tn (fun k => k = na ∨ B ≤ k) w ((w9.setCell ⟨na, 0, none⟩ (.int .i64 st)).setCell ⟨na, 1, none⟩ u)) := fun w9 st u t => (t.set (.inl (.inl rfl)) _ _).set (.inl (.inl rfl)) _ _
  have HO : Hid (∀ (w9 : World) (st : Int) (u u2 : Value) (m : Nat) (xs : List Value), w9.ownsRow B Eb 1 u2 m xs → ((w9.setCell ⟨na, 0, none⟩ (.int .i64 st)).setCell ⟨na, 1, none⟩ u).ownsRow B Eb 1 u2 m xs) := fun w9 st u u2 m xs o => by
    have t : Tn (fun k => k = na) w9 ((w9.setCell ⟨na, 0, none⟩ (.int .i64 st)).setCell ⟨na, 1, none⟩ u) := ((Tn.refl (fun k => k = na) w9).set (.inl rfl) _ _).set (.inl rfl) _ _
    exact row_tn o t (fun k hk _ e => by have := hB.1; omega)
  by_cases h2 : f1 = 2
  · subst h2
    go_wp2_with fail
    exact bodyPost_ret (v := .agg #[.int .i64 3, .slice none 0 0]) (by simp [results, Try.results18, go_sem, b0, b1]) rfl (HP.out (.slice none 0 0) _ (World.ownsRow_nil _ _ _ _) (HT.out _ 3 (.slice none 0 0) (Tn.refl _ _)))
  · have h2b : (f1 == 2) = false := by simpa using h2
    have e1 : (if f1 = 2 then (3 : Int) else 1) = 1 := if_neg h2
    have e2 : (if f1 = 2 then [] else corr ⟨f0, f1, f2, f3⟩ data) = corr ⟨f0, f1, f2, f3⟩ data := if_neg h2
    have HP1 : Hid (∀ (v' : Value) (w' : World), w'.ownsRow B Eb 1 v' data.length (bv (corr ⟨f0, f1, f2, f3⟩ data)) → Tn (fun k => k = na ∨ B ≤ k) w w' → Po (.returned (.agg #[.int .i64 1, v'])) w') := fun v' w' o t => by
      have h := HP.out v' w'
      dsimp only at h
      rw [e1, e2, corr_len] at h
      exact h o t
    clear HP e1 e2 h2
    by_cases h3 : f1 = 3
    · subst h3
      by_cases h0 : 0 < data.length
      · have h0i : (0 : Int) < (data.length : Int) := by omega
        obtain ⟨ix, rfl⟩ : ∃ ix : Nat, f2 = (ix : Int) := ⟨f2.toNat, by dsimp only at hix; omega⟩
        have ec : Hid (corr ⟨f0, 3, ix, f3⟩ data = data.set (ix % data.length) (bits BinOp.xor IntKind.u8 (data.getD (ix % data.length) 0) f3)) := by
          show _ = _
          unfold corr
          rw [if_pos ⟨rfl, h0⟩]
          rfl
        have hne : (data.length : Int) ≠ 0 := by omega
        obtain ⟨q, eq, hqi, hq⟩ : ∃ q : Nat, ix % data.length = q ∧ (ix : Int) % (data.length : Int) = (q : Int) ∧ q < data.length := ⟨_, rfl, by simp, Nat.mod_lt _ h0⟩
        have hqq : (q : Int) < (data.length : Int) := by omega
        rw [eq] at ec
        clear eq hix
        obtain ⟨g, vc2, ev, jc⟩ := row_some HR.out h0
        cases ev
        have jf := HR.out.frozenAt q
        have jq := jc q hq
        have HST : Hid (w.drew.setCell ⟨g, q, none⟩ (.int .u8 (bits BinOp.xor IntKind.u8 (data.getD q 0) f3)) |>.ownsRow B Eb 1 (.slice (some ⟨g, 0, none⟩) data.length vc) data.length (bv (data.set q (bits BinOp.xor IntKind.u8 (data.getD q 0) f3)))) := by
          have o := (row_ext HR.out (drewN_ext 1)).stored q (.int .u8 (bits BinOp.xor IntKind.u8 (data.getD q 0) f3))
          rw [show bv (data.set q (bits BinOp.xor IntKind.u8 (data.getD q 0) f3)) = (bv data).set q (.int .u8 (bits BinOp.xor IntKind.u8 (data.getD q 0) f3)) by unfold bv; rw [List.map_set]]
          exact o.1
        have lg := (HR.out.lt g rfl).1
        have HTT : Hid (Tn (fun k => k = na ∨ B ≤ k) w (w.drew.setCell ⟨g, q, none⟩ (.int .u8 (bits BinOp.xor IntKind.u8 (data.getD q 0) f3)))) := ((Tn.refl _ w).drew).set (.inl (.inr lg)) _ _
        have ng : na ≠ g := by have := hB.1; omega
        have ng2 : g ≠ na := by have := hB.1; omega
        have ng3 : nf ≠ g := by have := hB.2; omega
        have ng4 : g ≠ nf := by have := hB.2; omega
        clear lg jc HR HF
        generalize data.getD q 0 = dq at *
        go_upto_region 21 with fail
        go_region
        go_wp2_with fail
        exact bodyPost_ret (v := .agg #[.int .i64 1, .slice (some ⟨g, 0, none⟩) data.length vc]) (by simp [results, Try.results18, go_sem, b0, b1]) rfl (HP1.out _ _ (by rw [ec.out]; exact HO.out _ 1 _ _ _ _ HST.out) (HT.out _ 1 _ HTT.out))
      · have ec : Hid (corr ⟨f0, 3, f2, f3⟩ data = data) := by show _ = _; unfold corr; rw [if_neg (fun q => h0 q.2)]
        have h0i : ¬ (0 : Int) < (data.length : Int) := by omega
        go_wp2_with fail
        exact bodyPost_ret (v := .agg #[.int .i64 1, .slice va data.length vc]) (by simp [results, Try.results18, go_sem, b0, b1]) rfl (HP1.out _ _ (by rw [ec.out]; exact HO.out _ 1 _ _ _ _ HR.out) (HT.out _ 1 _ (Tn.refl _ _)))
    · have h3b : (f1 == 3) = false := by simpa using h3
      have ec : Hid (corr ⟨f0, f1, f2, f3⟩ data = data) := by show _ = _; unfold corr; rw [if_neg (fun q => h3 q.1)]
      go_wp2_with fail
      exact bodyPost_ret (v := .agg #[.int .i64 1, .slice va data.length vc]) (by simp [results, Try.results18, go_sem, b0, b1]) rfl (HP1.out _ _ (by rw [ec.out]; exact HO.out _ 1 _ _ _ _ HR.out) (HT.out _ 1 _ (Tn.refl _ _)))
end Go.Proofs.Ytfgljkeohoffiaa
