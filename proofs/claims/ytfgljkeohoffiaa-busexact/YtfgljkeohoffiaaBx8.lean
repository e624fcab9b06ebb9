/- BusExact: how little there is where Heavy says no; what is done to the models; from May on; the whole of it. -/
import Derived.Test.YtfgljkeohoffiaaBx1
import Derived.Test.YtfgljkeohoffiaaBx5
namespace Go.Proofs.Ytfgljkeohoffiaa
open Go.RowKit Go.Conc
/-- how much there is of the first k models -/
def tot (M : List Md) : Nat → Nat
  | 0 => 0
  | k + 1 => tot M k + (gm M k).list.length
theorem tot_ge (M : List Md) (i : Nat) : ∀ k, i < k → (gm M i).list.length ≤ tot M k
  | 0, h => by omega
  | k + 1, h => by
    show _ ≤ tot M k + (gm M k).list.length
    by_cases e : i = k
    · subst e; omega
    · have := tot_ge M i k (by omega)
      omega
theorem hsum_tot (n : Nat) (M : List Md) (hn : n ≤ 140737488355328) (hM : ∀ i, i < M.length → (gm M i).list.length ≤ 140737488355328) : ∀ k, k ≤ M.length → k ≤ 40 → hsum n M k = ((n + tot M k : Nat) : Int) ∧ n + tot M k ≤ (k + 1) * 140737488355328
  | 0, _, _ => ⟨rfl, by show n + 0 ≤ _; omega⟩
  | k + 1, h1, h2 => by
    obtain ⟨e, b⟩ := hsum_tot n M hn hM k (by omega) (by omega)
    have q := hM k (by omega)
    have e1 : hsum n M (k + 1) = wrap64 (hsum n M k + (gm M k).list.length) := rfl
    have e2 : tot M (k + 1) = tot M k + (gm M k).list.length := rfl
    rw [e1, e, e2]
    unfold wrap64
    omega
theorem heavy_small {n : Nat} {M : List Md} (hn : n ≤ 140737488355328) (hM : ∀ i, i < M.length → (gm M i).list.length ≤ 140737488355328) (h : heavyB n M = false) : M.length ≤ 40 ∧ n ≤ 600 ∧ ∀ i, i < M.length → (gm M i).list.length ≤ 600 := by
  unfold heavyB at h
  simp only [Bool.or_eq_false_iff, decide_eq_false_iff_not] at h
  have h40 : M.length ≤ 40 := by omega
  obtain ⟨e, _⟩ := hsum_tot n M hn hM M.length (Nat.le_refl _) h40
  have h1 := h.1
  rw [show min M.length 40 = M.length by omega, e] at h1
  refine ⟨h40, by omega, fun i hi => ?_⟩
  have := tot_ge M i M.length hi
  omega
/-- what the models that New was given are like while they are spoilt -/
structure SI (w0 w1 w2 wr : World) (g : Nat) (M : List Md) (A : Nat → Option Addr) (LC : Nat → Nat) : Prop where
  t : Tn (fun k => w0.heap.size ≤ k ∧ k < w1.heap.size) w2 wr
  g0 : 0 < M.length → w0.heap.size ≤ g ∧ g < w1.heap.size
  a : ∀ i, i < M.length → (∃ u, wr.cell? ⟨g, i * 3, none⟩ = some u) ∧ wr.frozen? ⟨g, i * 3, none⟩ = false ∧ wr.cell? ⟨g, i * 3 + 2, none⟩ = some (.slice (A i) (gm M i).list.length (LC i))
  l : ∀ i, i < M.length → ∀ k, k < (gm M i).list.length → ∃ q, A i = some ⟨q, 0, none⟩ ∧ q ≠ g ∧ w0.heap.size ≤ q ∧ q < w1.heap.size ∧ ∀ j, j < 4 → (∃ u, wr.cell? ⟨q, k * 4 + j, none⟩ = some u) ∧ wr.frozen? ⟨q, k * 4 + j, none⟩ = false
theorem set_frozen {w : World} {a b : Addr} {v : Value} (h : w.frozen? b = false) : (w.setCell a v).frozen? b = false := by
  rw [← h]; simp [go_sem]
theorem SI.put {w0 w1 w2 wr : World} {g : Nat} {M : List Md} {A : Nat → Option Addr} {LC : Nat → Nat} (h : SI w0 w1 w2 wr g M A LC) {q o : Nat} (v : Value) (hq : w0.heap.size ≤ q ∧ q < w1.heap.size) (hne : q ≠ g ∨ ∃ i, o = i * 3) : SI w0 w1 w2 (wr.setCell ⟨q, o, none⟩ v) g M A LC := by
  refine ⟨h.t.set (.inl hq) o v, h.g0, fun i hi => ?_, fun i hi k hk => ?_⟩
  · obtain ⟨⟨u, a1⟩, a2, a3⟩ := h.a i hi
    refine ⟨cell?_setCell_some a1, set_frozen a2, ?_⟩
    rw [World.cell?_setCell_other _ _ _ _ (fun e => ?_)]
    · exact a3
    · cases e
      rcases hne with e | ⟨j, e⟩
      · exact e rfl
      · omega
  · obtain ⟨q', e, n1, n2, n3, c⟩ := h.l i hi k hk
    refine ⟨q', e, n1, n2, n3, fun j hj => ?_⟩
    obtain ⟨⟨u, c1⟩, c2⟩ := c j hj
    exact ⟨cell?_setCell_some c1, set_frozen c2⟩
theorem lt_meas4 {n i : Nat} (h : i < n) : n - (intOf (.int .i64 ((i : Int) + 1))).toNat < n - (intOf (.int .i64 (i : Int))).toNat := by
  simp [intOf]; omega
/-- ahead of the loop -/
theorem CM.si {w0 w1 w2 : World} {M : List Md} {mr : Option Addr} {mc : Nat} {A : Nat → Option Addr} {LC : Nat → Nat} (h : CM w0 w1 M M.length (.slice mr M.length mc) A LC) (x : Ext w1 w2) : ∃ g, (0 < M.length → mr = some ⟨g, 0, none⟩) ∧ SI w0 w1 w2 w2 g M A LC := by
  by_cases h0 : M.length = 0
  · exact ⟨0, fun q => by omega, Tn.refl _ _, fun q => by omega, fun i hi => by omega, fun i hi => by omega⟩
  · have hrow := row_ext h.row x
    rcases hrow.2 with ⟨_, e2⟩ | ⟨g, cap', cur, e1, _, hg, _⟩
    · omega
    · cases e1
      have hgl := h.row.lt g rfl
      have hth : ∀ j, w2.frozen? ⟨g, j, none⟩ = false := fun j => by unfold World.frozen?; rw [hg]; simp
      refine ⟨g, fun _ => rfl, Tn.refl _ _, fun _ => hgl, fun i hi => ?_, fun i hi k hk => ?_⟩
      · obtain ⟨m0, m1, m2⟩ := mls_at M A LC i M.length hi
        have hl := mls_len M A LC M.length
        refine ⟨⟨_, (hrow.cellAt (i * 3) (by omega)).trans m0⟩, hth _, (hrow.cellAt (i * 3 + 2) (by omega)).trans m2⟩
      · obtain ⟨r, rn⟩ := h.li i hi
        have r2 := row_ext r x
        rcases r2.2 with ⟨_, e2⟩ | ⟨q, cap2, cur2, e1, _, hq, _⟩
        · omega
        · have eA : A i = some ⟨q, 0, none⟩ := by injection e1
          have hql := r.lt q (by rw [eA]; rfl)
          have hne : q ≠ g := fun e => rn q (by rw [eA]; rfl) (by rw [e]; rfl)
          have hl4 := fl4_len (gm M i).list
          refine ⟨q, eA, hne, hql.1, hql.2, fun j hj => ⟨?_, by unfold World.frozen?; rw [hq]; simp⟩⟩
          rw [eA] at r2
          have hlt : k * 4 + j < (fl4 (gm M i).list).length := by omega
          exact ⟨_, (r2.cellAt (k * 4 + j) (by omega)).trans (List.getElem?_eq_getElem hlt)⟩
set_option maxRecDepth 20000 in
set_option maxHeartbeats 16000000 in
theorem bx_spoil (w0 : World) (B : Nat) (am : Option Addr) (M : List Md) (cm : Nat) (af : Option Addr) (lf cf : Nat) (al : Option Addr) (ll cl : Nat) (NW : World → World → Value → Int → Prop) (bd cd : Code) (hbd : Try.f3.body = some bd) (hcd : cd = rgt [(), ()] bd) (z0 z2 z3 z4 z5 z6 z7 z8 z9 z10 z11 z12 z13 z14 z15 z16 z17 z18 z19 z20 z21 z22 z23 z24 z25 z26 z27 z28 z29 z30 z31 z32 z33 z34 z35 z36 z37 z38 z39 z40 z41 z42 z43 z44 z45 z46 z47 z48 z49 z50 z51 z52 z53 z54 z55 z56 z57 z58 z59 z60 z61 z62 z63 z64 z65 z66 z67 z68 z69 z70 z71 z72 z73 z74 z75 z76 z77 z78 z79 z80 z81 z82 z83 z84 z85 z86 z87 z88 z89 z90 z91 z92 z93 z94 z95 z96 z97 z98 z99 z100 z101 z102 z103 z104 z105 z106 z107 z108 z109 z110 z111 z112 z113 z114 z115 z116 z117 z118 z119 z120 z121 z122 z123 z124 z125 z126 z127 z128 z129 z130 z131 z132 z133 z134 z135 z136 z137 z138 z139 z140 z141 z142 z143 z144 z145 z146 z147 z148 z149 z150 z151 z152 z153 z154 z155 z156 z157 z158 z159 z160 z161 z162 z163 z164 z165 z166 z167 z168 z169 z170 z171 z172 z173 z174 z175 z176 z177 z178 z179 z180 z181 z182 z183 z184 z185 z186 z187 z188 z189 z190 z191 z192 z193 z194 z195 z196 z197 z198 z199 z200 z201 z202 z203 z204 z205 : Value) (QQ : Exit → Act → World → Prop)
    (HS : Hid (SC w0 B am M.length cm af lf cf al ll cl)) (HM : Hid (M.length ≤ 40 ∧ ∀ i, i < M.length → (gm M i).list.length ≤ 600))
    (HC : Hid (Calls Try.prog 5 #[.slice am M.length cm] w0 fun e w' => ∃ r rc, e = .returned (.slice r M.length rc) ∧ ∃ A LC, CM w0 w' M M.length (.slice r M.length rc) A LC))
    (HN : Hid (∀ w1 r rc A LC, CM w0 w1 M M.length (.slice r M.length rc) A LC → Calls Try.prog 6 #[.slice r M.length rc, .slice af lf cf] w1 fun e w' => ∃ vb ve, e = .returned (.tuple #[vb, .int .i64 ve]) ∧ Ext w1 w' ∧ Hid (NW w1 w' vb ve)))
    (hQ : ∀ (mr : Option Addr) (mc : Nat) (vb : Value) (ve : Int) (y6 y7 y25 y26 y27 y28 y29 y30 y31 y32 y33 y34 y35 y36 y37 y38 y39 y40 y41 y42 y43 y44 y45 y46 y47 y48 y49 y50 y51 y52 y53 y54 y55 y56 y57 y58 y59 y60 y61 y62 : Value) (w1 w2 w' : World) (g : Nat) (A : Nat → Option Addr) (LC : Nat → Nat), Hid (NW w1 w2 vb ve) → Ext w0 w1 → Ext w1 w2 → Hid (SI w0 w1 w2 w' g M A LC) → Code.wp Try.prog (rgt [(), (), (), (), ()] bd) QQ { tmps := #[z0, .pointer (some ⟨B, 0, none⟩), z2, .slice mr M.length mc, vb, .int .i64 ve, y6, y7, z8, z9, z10, z11, z12, z13, z14, z15, z16, z17, z18, z19, z20, z21, z22, z23, z24, y25, y26, y27, y28, y29, y30, y31, y32, y33, y34, y35, y36, y37, y38, y39, y40, y41, y42, y43, y44, y45, y46, y47, y48, y49, y50, y51, y52, y53, y54, y55, y56, y57, y58, y59, y60, y61, y62, z63, z64, z65, z66, z67, z68, z69, z70, z71, z72, z73, z74, z75, z76, z77, z78, z79, z80, z81, z82, z83, z84, z85, z86, z87, z88, z89, z90, z91, z92, z93, z94, z95, z96, z97, z98, z99, z100, z101, z102, z103, z104, z105, z106, z107, z108, z109, z110, z111, z112, z113, z114, z115, z116, z117, z118, z119, z120, z121, z122, z123, z124, z125, z126, z127, z128, z129, z130, z131, z132, z133, z134, z135, z136, z137, z138, z139, z140, z141, z142, z143, z144, z145, z146, z147, z148, z149, z150, z151, z152, z153, z154, z155, z156, z157, z158, z159, z160, z161, z162, z163, z164, z165, z166, z167, z168, z169, z170, z171, z172, z173, z174, z175, z176, z177, z178, z179, z180, z181, z182, z183, z184, z185, z186, z187, z188, z189, z190, z191, z192, z193, z194, z195, z196, z197, z198, z199, z200, z201, z202, z203, z204, z205], defers := [] } w') :
    Code.wp Try.prog cd QQ { tmps := #[z0, .pointer (some ⟨B, 0, none⟩), z2, z3, z4, z5, z6, z7, z8, z9, z10, z11, z12, z13, z14, z15, z16, z17, z18, z19, z20, z21, z22, z23, z24, z25, z26, z27, z28, z29, z30, z31, z32, z33, z34, z35, z36, z37, z38, z39, z40, z41, z42, z43, z44, z45, z46, z47, z48, z49, z50, z51, z52, z53, z54, z55, z56, z57, z58, z59, z60, z61, z62, z63, z64, z65, z66, z67, z68, z69, z70, z71, z72, z73, z74, z75, z76, z77, z78, z79, z80, z81, z82, z83, z84, z85, z86, z87, z88, z89, z90, z91, z92, z93, z94, z95, z96, z97, z98, z99, z100, z101, z102, z103, z104, z105, z106, z107, z108, z109, z110, z111, z112, z113, z114, z115, z116, z117, z118, z119, z120, z121, z122, z123, z124, z125, z126, z127, z128, z129, z130, z131, z132, z133, z134, z135, z136, z137, z138, z139, z140, z141, z142, z143, z144, z145, z146, z147, z148, z149, z150, z151, z152, z153, z154, z155, z156, z157, z158, z159, z160, z161, z162, z163, z164, z165, z166, z167, z168, z169, z170, z171, z172, z173, z174, z175, z176, z177, z178, z179, z180, z181, z182, z183, z184, z185, z186, z187, z188, z189, z190, z191, z192, z193, z194, z195, z196, z197, z198, z199, z200, z201, z202, z203, z204, z205], defers := [] } w0 := by
  subst hcd
  simp only [Try.f3] at hbd
  injection hbd with hbd
  subst hbd
  simp only [rgt] at hQ ⊢
  have HQ : Hid _ := hQ
  clear hQ
  have h40 := HM.out.1
  obtain ⟨p0, p1, p2⟩ := HS.out
  go_upto_region 4 with (go_at_call 5; refine HC.out.mono ?_; rintro e w1 ⟨mr, mc, rfl, A, LC, hcm⟩)
  clear p0 p1 p2
  obtain ⟨p0, p1, p2⟩ := HS.out.ext hcm.x
  have HN1 := HN.out w1 mr mc A LC hcm
  have HCM : Hid (CM w0 w1 M M.length (.slice mr M.length mc) A LC) := hcm
  clear hcm
  go_upto_region 5 with (go_at_call 6; refine HN1.mono ?_; rintro e w2 ⟨vb, ve, rfl, x2, hnw⟩; dsimp only)
  clear p0 p1 p2 HN1
  obtain ⟨g, hmr, h0⟩ := HCM.out.si x2
  have H0 : Hid (SI w0 w1 w2 w2 g M A LC) := h0
  have HX : Hid (Ext w1 w2) := x2
  clear h0 x2
  go_upto_region 6 with fail
  rename_i K hK
  have HK0 : Hid (∀ (a : Act) (w : World), Code.wp Try.prog _ _ a w → K a w) := hK
  clear hK
  go_loopw [6, 7] (fun i _ wr => ∃ k : Nat, k ≤ M.length ∧ i = .int .i64 k ∧ Hid (SI w0 w1 w2 wr g M A LC)) (fun i _ _ => M.length - (intOf i).toNat)
  case atStart => exact ⟨0, Nat.zero_le _, rfl, H0⟩
  case round =>
    clear H0
    obtain ⟨k, hk, rfl, HL⟩ := hrel
    by_cases hlt : k < M.length
    · have hlti : (k : Int) < (M.length : Int) := by omega
      obtain rfl := hmr (by omega)
      have hl6 := HM.out.2 k hlt
      obtain ⟨⟨u0, a0⟩, f0, _⟩ := HL.out.a k hlt
      have H1 : Hid (SI w0 w1 w2 (wr.setCell ⟨g, k * 3, none⟩ (.int .i64 99)) g M A LC) := HL.out.put _ (HL.out.g0 (by omega)) (.inr ⟨k, rfl⟩)
      go_upto_region 9 with fail
      generalize wr.setCell ⟨g, k * 3, none⟩ (.int .i64 99) = wa at *
      clear a0 f0 HL
      generalize hln : (gm M k).list.length = ln at *
      have HLN : Hid ((gm M k).list.length = ln) := hln
      clear hln
      go_wp2_with fail
      go_loopw [7] (fun i wi => ∃ j : Nat, j ≤ ln ∧ i = .int .i64 j ∧ Hid (SI w0 w1 w2 wi g M A LC)) (fun i _ => ln - (intOf i).toNat)
      case atStart => exact ⟨0, Nat.zero_le _, rfl, H1⟩
      case round =>
        clear H1
        obtain ⟨j, hj, rfl, HJ⟩ := hrel
        obtain ⟨_, _, a2⟩ := HJ.out.a k hlt
        rw [HLN.out] at a2
        by_cases hjt : j < ln
        · have hjti : (j : Int) < (ln : Int) := by omega
          obtain ⟨q, eA, hqg, hq0, hq1, c⟩ := HJ.out.l k hlt j (by rw [HLN.out]; exact hjt)
          obtain ⟨⟨c0, d0⟩, e0⟩ := c 0 (by omega)
          obtain ⟨⟨c1, d1⟩, e1⟩ := c 1 (by omega)
          obtain ⟨⟨c2, d2⟩, e2⟩ := c 2 (by omega)
          obtain ⟨⟨c3, d3⟩, e3⟩ := c 3 (by omega)
          rw [eA] at a2
          rw [Nat.add_zero] at d0 e0
          have hgq : g ≠ q := fun e => hqg e.symm
          have H3 : Hid (SI w0 w1 w2 ((((wr.setCell ⟨q, j * 4, none⟩ (.int .i64 7)).setCell ⟨q, j * 4 + 1, none⟩ (.int .i64 0)).setCell ⟨q, j * 4 + 2, none⟩ (.int .i64 0)).setCell ⟨q, j * 4 + 3, none⟩ (.int .i64 0)) g M A LC) := (((HJ.out.put _ ⟨hq0, hq1⟩ (.inl hqg)).put _ ⟨hq0, hq1⟩ (.inl hqg)).put _ ⟨hq0, hq1⟩ (.inl hqg)).put _ ⟨hq0, hq1⟩ (.inl hqg)
          clear c HJ eA
          go_wp2_with fail
          go_roundw
          case measure => exact lt_meas4 hjt
          case rel => exact ⟨j + 1, by omega, by go_num, H3⟩
        · have hjti : ¬ (j : Int) < (ln : Int) := by omega
          go_wp2_with fail
          go_roundw
          case measure => exact lt_meas4 hlt
          case rel => exact ⟨k + 1, by omega, by go_num, HJ⟩
    · have hlti : ¬ (k : Int) < (M.length : Int) := by omega
      go_wp2_with fail
      refine HK0.out _ _ ?_
      exact HQ.out _ _ _ _ _ _ _ _ _ _ _ _ _ _ _ _ _ _ _ _ _ _ _ _ _ _ _ _ _ _ _ _ _ _ _ _ _ _ _ _ _ _ _ _ w1 w2 _ g A LC hnw HCM.out.x HX.out HL
theorem newB_idx {M : List Md} {F : List Flt} (h : F.all okF = true) : ∀ k, 0 ≤ ((flt (newB M F).F k).getD noF).idx := by
  intro k
  rw [show flt (newB M F).F k = flt F k from flt_all F k]
  cases e : flt F k with
  | none => exact Int.le_refl _
  | some f =>
    have := List.all_eq_true.1 h f (flt_mem e).1
    unfold okF at this
    simp only [Bool.and_eq_true, decide_eq_true_eq] at this
    exact this.2.2
set_option maxRecDepth 20000 in
set_option maxHeartbeats 16000000 in
theorem bx_bad (w0 w : World) (B : Nat) (am : Option Addr) (M : List Md) (cm : Nat) (af : Option Addr) (F : List Flt) (cf : Nat) (al : Option Addr) (L : List Ac) (cl : Nat) (bd cd : Code) (hbd : Try.f3.body = some bd) (hcd : cd = rgt [(), (), (), (), ()] bd) (z0 z2 z3 z6 z7 z8 z9 z10 z11 z12 z13 z14 z15 z16 z17 z18 z19 z20 z21 z22 z23 z24 z25 z26 z27 z28 z29 z30 z31 z32 z33 z34 z35 z36 z37 z38 z39 z40 z41 z42 z43 z44 z45 z46 z47 z48 z49 z50 z51 z52 z53 z54 z55 z56 z57 z58 z59 z60 z61 z62 z63 z64 z65 z66 z67 z68 z69 z70 z71 z72 z73 z74 z75 z76 z77 z78 z79 z80 z81 z82 z83 z84 z85 z86 z87 z88 z89 z90 z91 z92 z93 z94 z95 z96 z97 z98 z99 z100 z101 z102 z103 z104 z105 z106 z107 z108 z109 z110 z111 z112 z113 z114 z115 z116 z117 z118 z119 z120 z121 z122 z123 z124 z125 z126 z127 z128 z129 z130 z131 z132 z133 z134 z135 z136 z137 z138 z139 z140 z141 z142 z143 z144 z145 z146 z147 z148 z149 z150 z151 z152 z153 z154 z155 z156 z157 z158 z159 z160 z161 z162 z163 z164 z165 z166 z167 z168 z169 z170 z171 z172 z173 z174 z175 z176 z177 z178 z179 z180 z181 z182 z183 z184 z185 z186 z187 z188 z189 z190 z191 z192 z193 z194 z195 z196 z197 z198 z199 z200 z201 z202 z203 z204 z205 : Value) (Po : Ending → World → Prop)
    (HS : Hid (SC w0 B am M.length cm af F.length cf al L.length cl)) (HM : Hid (∀ w', Ext w0 w' → MRs w' am M)) (HF : Hid (∀ w', Ext w0 w' → FRs w' af F)) (HL : Hid (M.length ≤ maxLen ∧ F.length ≤ maxLen)) (hx : Ext w0 w) (hok : (okMs M && okFs F) = false) (HP : Hid (∀ w', Ext w0 w' → Po (.returned (.bool true)) w')) :
    Code.wp Try.prog cd (bodyPost Try.prog Try.f3 Po) { tmps := #[z0, .pointer (some ⟨B, 0, none⟩), z2, z3, .pointer none, .int .i64 1, z6, z7, z8, z9, z10, z11, z12, z13, z14, z15, z16, z17, z18, z19, z20, z21, z22, z23, z24, z25, z26, z27, z28, z29, z30, z31, z32, z33, z34, z35, z36, z37, z38, z39, z40, z41, z42, z43, z44, z45, z46, z47, z48, z49, z50, z51, z52, z53, z54, z55, z56, z57, z58, z59, z60, z61, z62, z63, z64, z65, z66, z67, z68, z69, z70, z71, z72, z73, z74, z75, z76, z77, z78, z79, z80, z81, z82, z83, z84, z85, z86, z87, z88, z89, z90, z91, z92, z93, z94, z95, z96, z97, z98, z99, z100, z101, z102, z103, z104, z105, z106, z107, z108, z109, z110, z111, z112, z113, z114, z115, z116, z117, z118, z119, z120, z121, z122, z123, z124, z125, z126, z127, z128, z129, z130, z131, z132, z133, z134, z135, z136, z137, z138, z139, z140, z141, z142, z143, z144, z145, z146, z147, z148, z149, z150, z151, z152, z153, z154, z155, z156, z157, z158, z159, z160, z161, z162, z163, z164, z165, z166, z167, z168, z169, z170, z171, z172, z173, z174, z175, z176, z177, z178, z179, z180, z181, z182, z183, z184, z185, z186, z187, z188, z189, z190, z191, z192, z193, z194, z195, z196, z197, z198, z199, z200, z201, z202, z203, z204, z205], defers := [] } w := by
  subst hcd
  simp only [Try.f3] at hbd
  injection hbd with hbd
  subst hbd
  simp only [rgt]
  show (let Q : Exit → Act → World → Prop := bodyPost Try.prog Try.f3 Po; Code.wp Try.prog _ Q _ _)
  intro Q
  have HNU : Hid (∀ v w', Calls Try.prog 8 #[.int .i64 v] w' fun e w'' => e = .returned (.int .i64 v) ∧ w'' = w') := num_any
  have HX : Hid (Ext w0 w) := hx
  have HY := may_any w am M cm af F cf (HM.out _ hx) HL.out.1 (HF.out _ hx) HL.out.2
  rw [hok] at HY
  obtain ⟨p0, p1, p2⟩ := HS.out.ext hx
  have HW : Hid (∀ w', Calls Try.prog 9 #[] w' fun e w'' => e = .returned (.bool true) ∧ Ext w' w'') := wakes_any
  go_upto_region 14 with (go_at_call 7; refine HY.mono ?_; rintro e w2 ⟨rfl, x2⟩)
  clear p0 p1 p2
  have HX2 : Hid (Ext w0 w2) := HX.out.trans x2
  clear x2
  go_wp2_with (first | (go_at_call 8; refine (HNU.out _ _).mono ?_; rintro e wx ⟨rfl, hwx⟩; have hwy := hwx.symm; clear hwx; subst hwy) | (go_at_call 9; refine (HW.out _).mono ?_; rintro e w9 ⟨rfl, x9⟩))
  show Po (.returned (.bool true)) _
  exact HP.out _ (HX2.out.trans x9)
set_option maxRecDepth 20000 in
set_option maxHeartbeats 16000000 in
theorem bx_good (w0 w : World) (B : Nat) (y : BA) (am : Option Addr) (M : List Md) (cm : Nat) (af : Option Addr) (F : List Flt) (cf : Nat) (al : Option Addr) (L : List Ac) (cl : Nat) (bd cd : Code) (hbd : Try.f3.body = some bd) (hcd : cd = rgt [(), (), (), (), ()] bd) (z0 z2 z3 z6 z7 z8 z9 z10 z11 z12 z13 z14 z15 z16 z17 z18 z19 z20 z21 z22 z23 z24 z25 z26 z27 z28 z29 z30 z31 z32 z33 z34 z35 z36 z37 z38 z39 z40 z41 z42 z43 z44 z45 z46 z47 z48 z49 z50 z51 z52 z53 z54 z55 z56 z57 z58 z59 z60 z61 z62 z63 z64 z65 z66 z67 z68 z69 z70 z71 z72 z73 z74 z75 z76 z77 z78 z79 z80 z81 z82 z83 z84 z85 z86 z87 z88 z89 z90 z91 z92 z93 z94 z95 z96 z97 z98 z99 z100 z101 z102 z103 z104 z105 z106 z107 z108 z109 z110 z111 z112 z113 z114 z115 z116 z117 z118 z119 z120 z121 z122 z123 z124 z125 z126 z127 z128 z129 z130 z131 z132 z133 z134 z135 z136 z137 z138 z139 z140 z141 z142 z143 z144 z145 z146 z147 z148 z149 z150 z151 z152 z153 z154 z155 z156 z157 z158 z159 z160 z161 z162 z163 z164 z165 z166 z167 z168 z169 z170 z171 z172 z173 z174 z175 z176 z177 z178 z179 z180 z181 z182 z183 z184 z185 z186 z187 z188 z189 z190 z191 z192 z193 z194 z195 z196 z197 z198 z199 z200 z201 z202 z203 z204 z205 : Value) (Po : Ending → World → Prop)
    (HS : Hid (SC w0 B am M.length cm af F.length cf al L.length cl)) (HM : Hid (∀ w', Ext w0 w' → MRs w' am M)) (HF : Hid (∀ w', Ext w0 w' → FRs w' af F)) (HL : Hid (M.length ≤ maxLen ∧ F.length ≤ maxLen)) (HA : Hid (ARs w0 al L)) (hx : Ext w0 w) (hok : (okMs M && okFs F) = true) (hb : Hid (IsBus w y (newB M F) ∧ ∀ k, FB y k → w0.heap.size ≤ k)) (HP : Hid (∀ w', Ext w0 w' → Po (.returned (.bool true)) w')) :
    Code.wp Try.prog cd (bodyPost Try.prog Try.f3 Po) { tmps := #[z0, .pointer (some ⟨B, 0, none⟩), z2, z3, .pointer (some ⟨y.b, 0, none⟩), .int .i64 0, z6, z7, z8, z9, z10, z11, z12, z13, z14, z15, z16, z17, z18, z19, z20, z21, z22, z23, z24, z25, z26, z27, z28, z29, z30, z31, z32, z33, z34, z35, z36, z37, z38, z39, z40, z41, z42, z43, z44, z45, z46, z47, z48, z49, z50, z51, z52, z53, z54, z55, z56, z57, z58, z59, z60, z61, z62, z63, z64, z65, z66, z67, z68, z69, z70, z71, z72, z73, z74, z75, z76, z77, z78, z79, z80, z81, z82, z83, z84, z85, z86, z87, z88, z89, z90, z91, z92, z93, z94, z95, z96, z97, z98, z99, z100, z101, z102, z103, z104, z105, z106, z107, z108, z109, z110, z111, z112, z113, z114, z115, z116, z117, z118, z119, z120, z121, z122, z123, z124, z125, z126, z127, z128, z129, z130, z131, z132, z133, z134, z135, z136, z137, z138, z139, z140, z141, z142, z143, z144, z145, z146, z147, z148, z149, z150, z151, z152, z153, z154, z155, z156, z157, z158, z159, z160, z161, z162, z163, z164, z165, z166, z167, z168, z169, z170, z171, z172, z173, z174, z175, z176, z177, z178, z179, z180, z181, z182, z183, z184, z185, z186, z187, z188, z189, z190, z191, z192, z193, z194, z195, z196, z197, z198, z199, z200, z201, z202, z203, z204, z205], defers := [] } w := by
  subst hcd
  simp only [Try.f3] at hbd
  injection hbd with hbd
  subst hbd
  simp only [rgt]
  show (let Q : Exit → Act → World → Prop := bodyPost Try.prog Try.f3 Po; Code.wp Try.prog _ Q _ _)
  intro Q
  have HNU : Hid (∀ v w', Calls Try.prog 8 #[.int .i64 v] w' fun e w'' => e = .returned (.int .i64 v) ∧ w'' = w') := num_any
  have HX : Hid (Ext w0 w) := hx
  have HY := may_any w am M cm af F cf (HM.out _ hx) HL.out.1 (HF.out _ hx) HL.out.2
  rw [hok] at HY
  obtain ⟨p0, p1, p2⟩ := HS.out.ext hx
  have hF : F.all okF = true := by
    have := (Bool.and_eq_true _ _ ▸ hok).2
    unfold okFs at this
    exact (Bool.and_eq_true _ _ ▸ this).2
  have HI : Hid (∀ k, 0 ≤ ((flt (newB M F).F k).getD noF).idx) := newB_idx hF
  have HN : Hid (∀ w2, Ext w w2 → Calls Try.prog 10 #[.slice am M.length cm, .slice af F.length cf] w2 fun e w' => ∃ x : RA, e = .returned (.pointer (some ⟨x.b, 0, none⟩)) ∧ ∃ own s, Hid (BE w0 w' w2.heap.size w'.heap.size y x own s s)) := fun w2 x2 => by
    have x02 := HX.out.trans x2
    refine (rnew_any w2 am M cm af F cf (HM.out _ x02) (HF.out _ x02) hok).mono ?_
    rintro e w' ⟨x, rfl, own, hr⟩
    obtain ⟨r1, r2, r3⟩ := hr.out
    exact ⟨x, rfl, own, newB M F, x02.trans r2, (hb.out.1.ext x2).ext r2, r1, r3, fun k o => ⟨hb.out.2 k o, (hb.out.1.ext x2).lt k o⟩, x02.size, r2.size, Nat.le_refl _, HI.out, HI.out⟩
  go_upto_if 85 with (first | (go_at_call 7; refine HY.mono ?_; rintro e w2 ⟨rfl, x2⟩) | (go_at_call 8; refine (HNU.out _ _).mono ?_; rintro e wx ⟨rfl, hwx⟩; have hwy := hwx.symm; clear hwx; subst hwy))
  rename_i K hK
  have HK0 : Hid (∀ (a : Act) (w : World), Code.wp Try.prog _ _ a w → K a w) := hK
  clear hK
  go_wp2_with fail
  refine HK0.out _ _ ?_
  exact bx_main w0 w2 B y am M.length cm af F.length cf al L cl _ _ rfl rfl _ _ _ _ _ _ _ _ _ _ _ _ _ _ _ _ _ _ _ _ _ _ _ _ _ _ _ _ _ _ _ _ _ _ _ _ _ _ _ _ _ _ _ _ _ _ _ _ _ _ _ _ _ _ _ _ _ _ _ _ _ _ _ _ _ _ _ _ _ _ _ _ _ _ _ _ _ _ _ _ _ _ _ _ _ _ _ _ _ _ _ _ _ _ _ _ _ _ _ _ _ _ _ _ _ _ _ _ _ _ _ _ _ _ _ _ _ _ _ _ _ _ _ _ _ _ _ _ _ _ _ _ _ _ _ _ _ _ _ _ _ _ _ _ _ _ _ _ _ _ _ _ _ _ _ _ _ _ _ _ _ _ _ _ _ _ _ _ _ _ _ _ _ _ _ _ _ _ _ _ _ _ _ _ _ _ _ _ _ _ _ _ _ _ _ _ _ _ _ _ _ _ _ _ Po HS HA (HX.out.trans x2) (HN.out w2 x2) HP
theorem CM.mrs {w0 w1 : World} {M : List Md} {r : Option Addr} {rc : Nat} {A : Nat → Option Addr} {LC : Nat → Nat} (h : CM w0 w1 M M.length (.slice r M.length rc) A LC) (hl : ∀ i, i < M.length → (gm M i).list.length ≤ 600) : MRs w1 r M := fun i hi => by
  obtain ⟨m0, m1, m2⟩ := mls_at M A LC i M.length hi
  have hl3 := mls_len M A LC M.length
  have hrow := h.row
  rcases hrow.2 with ⟨_, e2⟩ | ⟨g, cap', cur, e1, _⟩
  · omega
  · cases e1
    refine ⟨g, 0, A i, LC i, rfl, ⟨?_, ?_, ?_⟩, lr_row (h.li i hi).1, by have := hl i hi; unfold maxLen; omega⟩
    · rw [Nat.zero_add]; exact (hrow.cellAt (i * 3) (by omega)).trans m0
    · rw [Nat.zero_add]; exact (hrow.cellAt (i * 3 + 1) (by omega)).trans m1
    · rw [Nat.zero_add]; exact (hrow.cellAt (i * 3 + 2) (by omega)).trans m2
/-- what New tells, and makes -/
def NWs (M : List Md) (F : List Flt) (w1 w2 : World) (vb : Value) (ve : Int) : Prop :=
  ((okMs M && okFs F) = false → vb = .pointer none ∧ ve = 1) ∧ ((okMs M && okFs F) = true → ∃ y : BA, vb = .pointer (some ⟨y.b, 0, none⟩) ∧ ve = 0 ∧ IsBus w2 y (newB M F) ∧ ∀ k, FB y k → w1.heap.size ≤ k)
theorem new_ws (w : World) (a : Option Addr) (M : List Md) (c : Nat) (a2 : Option Addr) (F : List Flt) (c2 : Nat) (hM : MRs w a M) (hl : M.length ≤ maxLen) (hF : FRs w a2 F) (hl2 : F.length ≤ maxLen) :
    Calls Try.prog 6 #[.slice a M.length c, .slice a2 F.length c2] w fun e w' => ∃ vb ve, e = .returned (.tuple #[vb, .int .i64 ve]) ∧ Ext w w' ∧ Hid (NWs M F w w' vb ve) := by
  refine (busnew_any w a M c a2 F c2 hM hl hF hl2).mono ?_
  rintro e w' ⟨x, h1, h2⟩
  cases hok : okMs M && okFs F
  · exact ⟨_, _, h1 hok, x, fun _ => ⟨rfl, rfl⟩, fun h => by rw [hok] at h; cases h⟩
  · obtain ⟨y, he, hb, hf⟩ := h2 hok
    exact ⟨_, _, he, x, fun h => (by rw [hok] at h; cases h), fun _ => ⟨y, rfl, rfl, hb, hf⟩⟩
set_option maxRecDepth 20000 in
set_option maxHeartbeats 8000000 in
theorem busexact_any (w : World) (am : Option Addr) (M : List Md) (cm : Nat) (af : Option Addr) (F : List Flt) (cf : Nat) (al : Option Addr) (L : List Ac) (cl : Nat) (hM : MRs w am M) (hl : M.length ≤ maxLen) (hF : FRs w af F) (hl2 : F.length ≤ maxLen) (hA : ARs w al L) (hs : F.length ≤ 140737488355328 ∧ ∀ i, i < M.length → (gm M i).list.length ≤ 140737488355328) :
    Calls Try.prog 3 #[scv am M.length cm af F.length cf al L.length cl] w fun e w' => e = .returned (.bool true) ∧ Ext w w' := by
  have x0 : Ext w (w.alloc (scc am M.length cm af F.length cf al L.length cl)) := (Ext.refl w).alloc _
  have hS : SC (w.alloc (scc am M.length cm af F.length cf al L.length cl)) w.heap.size am M.length cm af F.length cf al L.length cl := sc_new
  have HH := heavy_any _ am M cm af F.length cf (hM.ext x0) hl
  have HA : Hid (ARs (w.alloc (scc am M.length cm af F.length cf al L.length cl)) al L) := hA.ext x0
  have HMM : Hid (∀ wr, Ext (w.alloc (scc am M.length cm af F.length cf al L.length cl)) wr → MRs wr am M) := fun wr x => (hM.ext x0).ext x
  have HFF : Hid (∀ wr, Ext (w.alloc (scc am M.length cm af F.length cf al L.length cl)) wr → FRs wr af F) := fun wr x => (hF.ext x0).ext x
  have HX0 : Hid (Ext w (w.alloc (scc am M.length cm af F.length cf al L.length cl))) := x0
  have HLM : Hid (M.length ≤ maxLen ∧ F.length ≤ maxLen) := ⟨hl, hl2⟩
  have hss : Hid (F.length ≤ 140737488355328 ∧ ∀ i, i < M.length → (gm M i).list.length ≤ 140737488355328) := hs
  clear hM hF hA hs x0
  obtain ⟨s0, s1, s2⟩ := id hS
  have HS : Hid (SC (w.alloc (scc am M.length cm af F.length cf al L.length cl)) w.heap.size am M.length cm af F.length cf al L.length cl) := hS
  clear hS
  go_enter Try.func3, Try.ntmps3
  go_upto_region 1 with fail
  generalize (w.alloc (scc am M.length cm af F.length cf al L.length cl)) = w0 at *
  generalize w.heap.size = B at *
  cases hhv : heavyB F.length M <;> rw [hhv] at HH
  · have HSM := heavy_small hss.out.1 hss.out.2 hhv
    go_upto_if 24 with (go_at_call 4; refine HH.mono ?_; rintro e wx ⟨rfl, hwx⟩; have hwy := hwx.symm; clear hwx; subst hwy)
    rename_i K hK
    have HK0 : Hid (∀ (a : Act) (w : World), Code.wp Try.prog _ _ a w → K a w) := hK
    clear hK
    go_wp2_with fail
    refine HK0.out _ _ ?_
    clear HK0 K HH s0 s1 s2
    refine bx_spoil w0 B am M cm af F.length cf al L.length cl (NWs M F) _ _ rfl rfl _ _ _ _ _ _ _ _ _ _ _ _ _ _ _ _ _ _ _ _ _ _ _ _ _ _ _ _ _ _ _ _ _ _ _ _ _ _ _ _ _ _ _ _ _ _ _ _ _ _ _ _ _ _ _ _ _ _ _ _ _ _ _ _ _ _ _ _ _ _ _ _ _ _ _ _ _ _ _ _ _ _ _ _ _ _ _ _ _ _ _ _ _ _ _ _ _ _ _ _ _ _ _ _ _ _ _ _ _ _ _ _ _ _ _ _ _ _ _ _ _ _ _ _ _ _ _ _ _ _ _ _ _ _ _ _ _ _ _ _ _ _ _ _ _ _ _ _ _ _ _ _ _ _ _ _ _ _ _ _ _ _ _ _ _ _ _ _ _ _ _ _ _ _ _ _ _ _ _ _ _ _ _ _ _ _ _ _ _ _ _ _ _ _ _ _ _ _ _ _ _ _ _ _ _ _ HS ⟨HSM.1, HSM.2.2⟩ (copymodels_any w0 am M cm (HMM.out _ (Ext.refl _)) ⟨HSM.1, fun i hi => by have := HSM.2.2 i hi; omega⟩) (fun w1 r rc A LC hcm => new_ws w1 r M rc af F cf (hcm.mrs HSM.2.2) HLM.out.1 (HFF.out _ hcm.x) HLM.out.2) ?_
    intro mr mc vb ve y6 y7 y25 y26 y27 y28 y29 y30 y31 y32 y33 y34 y35 y36 y37 y38 y39 y40 y41 y42 y43 y44 y45 y46 y47 y48 y49 y50 y51 y52 y53 y54 y55 y56 y57 y58 y59 y60 y61 y62 w1 w2 w' g A LC hnw x01 x12 hsi
    have xw : Ext w0 w' := hsi.out.t.below (x01.trans x12) (fun k o => o.1)
    have HP : Hid (∀ w', Ext w0 w' → (Ending.returned (Value.bool true) = Ending.returned (Value.bool true) ∧ Ext w w')) := fun w' x => ⟨rfl, HX0.out.trans x⟩
    cases hok : okMs M && okFs F
    · obtain ⟨rfl, rfl⟩ := hnw.out.1 hok
      exact bx_bad w0 w' B am M cm af F cf al L cl _ _ rfl rfl _ _ _ _ _ _ _ _ _ _ _ _ _ _ _ _ _ _ _ _ _ _ _ _ _ _ _ _ _ _ _ _ _ _ _ _ _ _ _ _ _ _ _ _ _ _ _ _ _ _ _ _ _ _ _ _ _ _ _ _ _ _ _ _ _ _ _ _ _ _ _ _ _ _ _ _ _ _ _ _ _ _ _ _ _ _ _ _ _ _ _ _ _ _ _ _ _ _ _ _ _ _ _ _ _ _ _ _ _ _ _ _ _ _ _ _ _ _ _ _ _ _ _ _ _ _ _ _ _ _ _ _ _ _ _ _ _ _ _ _ _ _ _ _ _ _ _ _ _ _ _ _ _ _ _ _ _ _ _ _ _ _ _ _ _ _ _ _ _ _ _ _ _ _ _ _ _ _ _ _ _ _ _ _ _ _ _ _ _ _ _ _ _ _ _ _ _ _ _ _ _ _ _ _ HS HMM HFF HLM xw hok HP
    · obtain ⟨y, rfl, rfl, hb, hf⟩ := hnw.out.2 hok
      exact bx_good w0 w' B y am M cm af F cf al L cl _ _ rfl rfl _ _ _ _ _ _ _ _ _ _ _ _ _ _ _ _ _ _ _ _ _ _ _ _ _ _ _ _ _ _ _ _ _ _ _ _ _ _ _ _ _ _ _ _ _ _ _ _ _ _ _ _ _ _ _ _ _ _ _ _ _ _ _ _ _ _ _ _ _ _ _ _ _ _ _ _ _ _ _ _ _ _ _ _ _ _ _ _ _ _ _ _ _ _ _ _ _ _ _ _ _ _ _ _ _ _ _ _ _ _ _ _ _ _ _ _ _ _ _ _ _ _ _ _ _ _ _ _ _ _ _ _ _ _ _ _ _ _ _ _ _ _ _ _ _ _ _ _ _ _ _ _ _ _ _ _ _ _ _ _ _ _ _ _ _ _ _ _ _ _ _ _ _ _ _ _ _ _ _ _ _ _ _ _ _ _ _ _ _ _ _ _ _ _ _ _ _ _ _ _ _ _ _ _ HS HMM HFF HLM HA xw hok ⟨hb.tn hsi.out.t (fun k o o2 => by have := hf k o; omega), fun k o => Nat.le_trans x01.size (hf k o)⟩ HP
  · go_wp2_with (go_at_call 4; refine HH.mono ?_; rintro e wx ⟨rfl, hwx⟩; have hwy := hwx.symm; clear hwx; subst hwy)
    go_ret
    exact ⟨rfl, HX0.out⟩
end Go.Proofs.Ytfgljkeohoffiaa
