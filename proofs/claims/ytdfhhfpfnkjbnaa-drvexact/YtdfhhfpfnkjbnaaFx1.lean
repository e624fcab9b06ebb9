/- DrvExact: what a round does from region 20 on. -/
import Derived.Test.YtdfhhfpfnkjbnaaFx2
namespace Go.Proofs.Ytdfhhfpfnkjbnaa
open Go.RowKit Go.Conc
set_option maxRecDepth 20000 in
set_option maxHeartbeats 16000000 in
theorem dexact1 (w wv5 : World) (d sd : Dr) (okd wn : Bool) (bd sv pr ast : Int) (data : List Int) (da : Option Addr) (dc np na nc nt : Nat)  (bd0 cd : Code) (hbd : Try.f5.body = some bd0) (hcd : cd = rgt [(), (), (), (), (), (), (), (), (), (), (), ()] (inn1 (lft (rgt [()] (inn1 (inn1 (rgt [()] (lft (rgt [()] bd0))))))))) (z0 z1 z2 z3 z15 z16 z17 z18 z19 z20 z21 z22 z23 z24 z25 z26 z27 z28 z29 z30 z31 z32 z33 z34 z35 z36 z37 z38 z39 z40 z41 z42 z43 z44 z45 z46 z47 z48 z49 z50 z51 z52 z53 z54 z55 z56 z57 z58 z59 z60 z61 z62 z63 z64 z65 z66 z67 z68 z69 z70 z71 z72 z73 z74 z75 z76 z77 z78 z79 z80 z81 z82 z83 z84 z85 z86 z87 z88 z89 z90 z91 z92 z93 z94 z95 z96 z97 z98 z99 z100 z101 z102 z103 z104 z105 z106 z107 z108 z109 z110 z111 z112 z113 z114 z115 z116 z117 z118 z119 z120 z121 z122 z123 z124 z125 z126 z127 z128 z129 z130 z131 z132 z133 z134 z135 z136 z137 z138 z139 z140 z141 z142 z143 z144 z145 z146 z147 z148 z149 z150 z151 z152 z153 z154 z155 z156 z157 z158 z159 z160 z161 z162 z163 z164 z165 z166 z167 z168 z169 z170 z171 z172 z173 z174 z175 z176 z177 z178 z179 z180 z181 z182 z183 z184 z185 z186 z187 z188 z189 z190 z191 z192 z193 z194 z195 z196 z197 z198 z199 z200 z201 z202 z203 z204 z205 z206 z207 z208 z209 z210 z211 z212 z213 z214 z215 z216 z217 z218 z219 z220 z221 z222 z223 z224 z225 z226 z227 z228 z229 z230 z231 z232 : Value) (QQ : Exit → Act → World → Prop)
    (hQ : Hid (∀ (y4 y5 y6 y7 y8 y9 y10 y11 y12 y13 y14 y15 y16 y17 y18 y19 y20 y21 y22 y23 y24 y25 y26 y27 y28 y29 y30 y31 y32 y33 y34 y35 y36 y37 y38 y39 y40 y41 y42 y43 y44 y45 y46 y47 y48 y49 y50 y51 y52 y53 y54 y55 y56 y57 y58 y59 y60 y61 y62 y63 y64 y65 y66 y67 y68 y69 y70 y71 y72 y73 y74 y75 y76 y77 y78 y79 y80 y81 y82 y83 y84 y85 y86 y87 y88 y89 y90 y91 y92 y93 y94 y95 y96 y97 y98 y99 y100 y101 y102 y103 y104 y105 y106 y107 y108 y109 y110 y111 y112 y113 y114 y115 y116 y117 y118 y119 y120 y121 y122 y123 y124 y125 y126 y127 y128 y129 y130 y131 y132 y133 y134 y135 y136 y137 y138 y139 y140 y141 y142 y143 y144 y145 y146 y147 y148 y149 y150 y151 y152 y153 y154 y155 y156 y157 y158 y159 y160 y161 y162 y163 y164 y165 y166 y167 y168 y169 y170 y171 y172 y173 y174 y175 y176 y177 y178 y179 y180 y181 y182 y183 y184 y185 y186 y187 y188 y189 y190 y191 y192 y193 y194 y195 y196 y197 y198 y199 y200 y201 y202 y203 y204 y205 y206 y207 y208 y209 y210 y211 y212 y213 y214 y215 y216 y217 y218 y219 y220 y221 y222 y223 y224 y225 y226 y227 y228 y229 y230 y231 : Value) (w' : World), Hid (Ext w w') → QQ Exit.normal { tmps := #[z0, z1, z2, z3, y4, y5, y6, y7, y8, y9, y10, y11, y12, y13, y14, y15, y16, y17, y18, y19, y20, y21, y22, y23, y24, y25, y26, y27, y28, y29, y30, y31, y32, y33, y34, y35, y36, y37, y38, y39, y40, y41, y42, y43, y44, y45, y46, y47, y48, y49, y50, y51, y52, y53, y54, y55, y56, y57, y58, y59, y60, y61, y62, y63, y64, y65, y66, y67, y68, y69, y70, y71, y72, y73, y74, y75, y76, y77, y78, y79, y80, y81, y82, y83, y84, y85, y86, y87, y88, y89, y90, y91, y92, y93, y94, y95, y96, y97, y98, y99, y100, y101, y102, y103, y104, y105, y106, y107, y108, y109, y110, y111, y112, y113, y114, y115, y116, y117, y118, y119, y120, y121, y122, y123, y124, y125, y126, y127, y128, y129, y130, y131, y132, y133, y134, y135, y136, y137, y138, y139, y140, y141, y142, y143, y144, y145, y146, y147, y148, y149, y150, y151, y152, y153, y154, y155, y156, y157, y158, y159, y160, y161, y162, y163, y164, y165, y166, y167, y168, y169, y170, y171, y172, y173, y174, y175, y176, y177, y178, y179, y180, y181, y182, y183, y184, y185, y186, y187, y188, y189, y190, y191, y192, y193, y194, y195, y196, y197, y198, y199, y200, y201, y202, y203, y204, y205, y206, y207, y208, y209, y210, y211, y212, y213, y214, y215, y216, y217, y218, y219, y220, y221, y222, y223, y224, y225, y226, y227, y228, y229, y230, y231, z232], defers := [] } w'))
    (ltpa : np < na) (ltac : na < nc) (ltct : nc < nt) (HNU : Hid (∀ v w', Calls Try.prog 11 #[.int .i64 v] w' fun e w'' => e = .returned (.int .i64 v) ∧ w'' = w')) (HSC : Hid (∀ W, Calls Try.prog 14 #[.agg #[.int .i64 d.addr, .int .i64 d.id, .bool d.want, .int .i64 d.per, .int .i64 d.st, .int .i64 d.fails, .bool d.tried, .int .i64 d.left, .int .i64 d.bad], .bool wn, .int .i64 pr] W fun e w' => e = .returned (.tuple #[.agg #[.int .i64 sd.addr, .int .i64 sd.id, .bool sd.want, .int .i64 sd.per, .int .i64 sd.st, .int .i64 sd.fails, .bool sd.tried, .int .i64 sd.left, .int .i64 sd.bad], .int .i64 sv]) ∧ Ext W w')) (HOK : Hid (okD d = okd)) (HBD : Hid (bd = if okd = true then 0 else 1)) (HRD0 : Hid (RdY w 0 da data ∧ data.length ≤ dc ∧ ∀ j, 0 ≤ data.getD j 0 ∧ data.getD j 0 ≤ 255)) (HRD : Hid (∀ W, Ext w W → RdY W 0 da data)) (H400 : Hid (data.length ≤ 400)) (Lc : Hid (w.heap.size ≤ nc)) (Lt : Hid (w.heap.size ≤ nt)) (Fp : Hid (HV wv5 np [.int .i64 d.addr, .int .i64 d.id, .bool d.want, .int .i64 d.per, .int .i64 d.st, .int .i64 d.fails, .bool d.tried, .int .i64 d.left, .int .i64 d.bad, .bool wn, .int .i64 pr, .int .i64 ast, .slice da data.length dc])) (Fa : Hid (HV wv5 na [.int .i64 sd.addr, .int .i64 sd.id, .bool sd.want, .int .i64 sd.per, .int .i64 sd.st, .int .i64 sd.fails, .bool sd.tried, .int .i64 sd.left, .int .i64 sd.bad])) (Fc : Hid (HV wv5 nc [.int .i64 0, .int .i64 0, .bool false, .int .i64 0, .int .i64 0, .int .i64 0, .bool false, .int .i64 0, .int .i64 0])) (Ft : Hid (HV wv5 nt [.int .i64 0, .int .i64 0, .slice none 0 0, .int .i64 0])) (FX : Hid (Ext w wv5)) :
    Code.wp Try.prog cd QQ { tmps := #[z0, z1, z2, z3, .pointer (some ⟨np, 0, none⟩), .int .i64 bd, .int .i64 sv, .int .i64 bd, .int .i64 bd, .pointer (some ⟨na, 0, none⟩), .pointer (some ⟨nc, 0, none⟩), .pointer (some ⟨nt, 0, none⟩), .slice none 0 0, .bool false, .bool false, z15, z16, z17, z18, z19, z20, z21, z22, z23, z24, z25, z26, z27, z28, z29, z30, z31, z32, z33, z34, z35, z36, z37, z38, z39, z40, z41, z42, z43, z44, z45, z46, z47, z48, z49, z50, z51, z52, z53, z54, z55, z56, z57, z58, z59, z60, z61, z62, z63, z64, z65, z66, z67, z68, z69, z70, z71, z72, z73, z74, z75, z76, z77, z78, z79, z80, z81, z82, z83, z84, z85, z86, z87, z88, z89, z90, z91, z92, z93, z94, z95, z96, z97, z98, z99, z100, z101, z102, z103, z104, z105, z106, z107, z108, z109, z110, z111, z112, z113, z114, z115, z116, z117, z118, z119, z120, z121, z122, z123, z124, z125, z126, z127, z128, z129, z130, z131, z132, z133, z134, z135, z136, z137, z138, z139, z140, z141, z142, z143, z144, z145, z146, z147, z148, z149, z150, z151, z152, z153, z154, z155, z156, z157, z158, z159, z160, z161, z162, z163, z164, z165, z166, z167, z168, z169, z170, z171, z172, z173, z174, z175, z176, z177, z178, z179, z180, z181, z182, z183, z184, z185, z186, z187, z188, z189, z190, z191, z192, z193, z194, z195, z196, z197, z198, z199, z200, z201, z202, z203, z204, z205, z206, z207, z208, z209, z210, z211, z212, z213, z214, z215, z216, z217, z218, z219, z220, z221, z222, z223, z224, z225, z226, z227, z228, z229, z230, z231, z232], defers := [] } wv5 := by
  subst hcd
  simp only [Try.f5] at hbd
  injection hbd with hbd
  subst hbd
  simp only [rgt, lft, inn1]
  have LO : Hid (nc < wv5.heap.size ∧ nt < wv5.heap.size ∧ na < wv5.heap.size ∧ np < wv5.heap.size) := ⟨Fc.out.1, Ft.out.1, Fa.out.1, Fp.out.1⟩
  obtain ⟨lo, hlo⟩ : ∃ lo, wv5.heap.size = lo := ⟨_, rfl⟩
  have HLO : Hid (wv5.heap.size = lo) := hlo
  rw [hlo] at LO
  clear hlo
  go_upto_if 73 with fail
  obtain ⟨sb, hsb, HSBB⟩ : ∃ sb, (bd == 0) = sb ∧ Hid ((bd == 0) = sb) := ⟨_, rfl, rfl⟩
  rw [hsb]
  clear hsb
  go_cut [8, 13] from 29 to 231 (fun v8 v13 wx => ∃ (so : Bool) (tk x0 tr tq : Int) (ta : Option Addr) (tw : List Int) (tc : Nat), v8 = .int .i64 tk ∧ v13 = .bool so ∧ Hid (HV wx np [.int .i64 d.addr, .int .i64 d.id, .bool d.want, .int .i64 d.per, .int .i64 d.st, .int .i64 d.fails, .bool d.tried, .int .i64 d.left, .int .i64 d.bad, .bool wn, .int .i64 pr, .int .i64 ast, .slice da data.length dc] ∧ HV wx na [.int .i64 sd.addr, .int .i64 sd.id, .bool sd.want, .int .i64 sd.per, .int .i64 sd.st, .int .i64 sd.fails, .bool sd.tried, .int .i64 sd.left, .int .i64 sd.bad] ∧ HV wx nc [.int .i64 0, .int .i64 0, .bool false, .int .i64 0, .int .i64 0, .int .i64 0, .bool false, .int .i64 0, .int .i64 0] ∧ HV wx nt [.int .i64 x0, .int .i64 tr, .slice ta tw.length tc, .int .i64 tq] ∧ Ext w wx) ∧ Hid (RdY wx lo ta tw ∧ tw.length ≤ 100000) ∧ Hid (∀ W, Calls Try.prog 9 #[.agg #[.int .i64 d.addr, .int .i64 d.id, .bool d.want, .int .i64 d.per, .int .i64 d.st, .int .i64 d.fails, .bool d.tried, .int .i64 d.left, .int .i64 d.bad]] W fun e w' => ∃ a c, e = .returned (.tuple #[.agg #[.int .i64 x0, .int .i64 tr, .slice a tw.length c, .int .i64 tq], .bool so, .int .i64 bd]) ∧ RdY w' W.heap.size a tw ∧ Ext W w') ∧ Hid ((tk = 0 → okD d = true ∧ inn d.st 1 7 = true) ∧ (tk ≠ 0 → tk = 1 ∧ (okD d = false ∨ inn d.st 1 7 = false))))
  case first =>
    rename_i hA1 hA0
    have hA1 : Hid _ := hA1
    have hA0 : Hid _ := hA0
    go_tidy
    have hA1 := hA1.out
    have hA0 := hA0.out
    have hsb := HSBB.out
    have e1 := HBD.out
    have e3 := HOK.out
    cases sb
    · have hf : okd = false := by cases okd; rfl; rw [e1] at hsb; cases hsb
      subst hf
      have hb1 : bd = 1 := e1
      subst hb1
      have HN2 : Hid (∀ W, Calls Try.prog 9 #[.agg #[.int .i64 d.addr, .int .i64 d.id, .bool d.want, .int .i64 d.per, .int .i64 d.st, .int .i64 d.fails, .bool d.tried, .int .i64 d.left, .int .i64 d.bad]] W fun e w' => ∃ a c, e = .returned (.tuple #[txw 0 0 a ([] : List Int).length c 0, .bool false, .int .i64 1]) ∧ RdY w' W.heap.size a [] ∧ Ext W w') := fun W => (next_bad d e3 W).mono fun e w' ⟨h1, h2⟩ => ⟨none, 0, h1, rdy_nil _ _ _, h2⟩
      have HTK : Hid (okD d = false) := e3
      clear hsb e1 e3
      go_wp2_with fail
      go_meet
      exact ⟨false, 1, 0, 0, 0, none, [], 0, rfl, rfl, ⟨Fp.out, Fa.out, Fc.out, Ft.out, FX.out⟩, ⟨rdy_nil _ _ _, by simp⟩, HN2, ⟨fun h => by omega, fun _ => ⟨rfl, .inl HTK.out⟩⟩⟩
    · have hf : okd = true := by cases okd; (rw [e1] at hsb; cases hsb); rfl
      subst hf
      have hb1 : bd = 0 := e1
      subst hb1
      clear hsb e1
      cases hin : inn d.st 1 7
      · have HN1 : Hid (∀ W, Calls Try.prog 16 #[.agg #[.int .i64 d.addr, .int .i64 d.id, .bool d.want, .int .i64 d.per, .int .i64 d.st, .int .i64 d.fails, .bool d.tried, .int .i64 d.left, .int .i64 d.bad]] W fun e w' => e = .returned (.tuple #[.agg #[.int .i64 0, .int .i64 0, .slice none 0 0, .int .i64 0], .bool false]) ∧ Ext W w') := rnext_none d (okD_st e3) hin
        have HN2 : Hid (∀ W, Calls Try.prog 9 #[.agg #[.int .i64 d.addr, .int .i64 d.id, .bool d.want, .int .i64 d.per, .int .i64 d.st, .int .i64 d.fails, .bool d.tried, .int .i64 d.left, .int .i64 d.bad]] W fun e w' => ∃ a c, e = .returned (.tuple #[txw 0 0 a ([] : List Int).length c 0, .bool false, .int .i64 0]) ∧ RdY w' W.heap.size a [] ∧ Ext W w') := fun W => (next_none d e3 hin W).mono fun e w' ⟨h1, h2⟩ => ⟨none, 0, h1, rdy_nil _ _ _, h2⟩
        have HTK : Hid (inn d.st 1 7 = false) := hin
        clear hin e3
        have qp0 : wv5.cell? ⟨np, 0, none⟩ = some (.int .i64 d.addr) := Fp.out.c 0 rfl
        have qp1 : wv5.cell? ⟨np, 1, none⟩ = some (.int .i64 d.id) := Fp.out.c 1 rfl
        have qp2 : wv5.cell? ⟨np, 2, none⟩ = some (.bool d.want) := Fp.out.c 2 rfl
        have qp3 : wv5.cell? ⟨np, 3, none⟩ = some (.int .i64 d.per) := Fp.out.c 3 rfl
        have qp4 : wv5.cell? ⟨np, 4, none⟩ = some (.int .i64 d.st) := Fp.out.c 4 rfl
        have qp5 : wv5.cell? ⟨np, 5, none⟩ = some (.int .i64 d.fails) := Fp.out.c 5 rfl
        have qp6 : wv5.cell? ⟨np, 6, none⟩ = some (.bool d.tried) := Fp.out.c 6 rfl
        have qp7 : wv5.cell? ⟨np, 7, none⟩ = some (.int .i64 d.left) := Fp.out.c 7 rfl
        have qp8 : wv5.cell? ⟨np, 8, none⟩ = some (.int .i64 d.bad) := Fp.out.c 8 rfl
        go_upto_region 22 with (go_at_call 16; refine (HN1.out _).mono ?_; rintro e wq2 ⟨rfl, xq2⟩; (try dsimp only); have kt0 : wq2.cell? ⟨nt, 0, none⟩ = some (.int .i64 0) := (Ft.out.ext xq2).c 0 rfl; have zt0 : wq2.frozen? ⟨nt, 0, none⟩ = false := (Ft.out.ext xq2).f 0 rfl; have kt1 : wq2.cell? ⟨nt, 1, none⟩ = some (.int .i64 0) := (Ft.out.ext xq2).c 1 rfl; have zt1 : wq2.frozen? ⟨nt, 1, none⟩ = false := (Ft.out.ext xq2).f 1 rfl; have kt2 : wq2.cell? ⟨nt, 2, none⟩ = some (.slice none 0 0) := (Ft.out.ext xq2).c 2 rfl; have zt2 : wq2.frozen? ⟨nt, 2, none⟩ = false := (Ft.out.ext xq2).f 2 rfl; have kt3 : wq2.cell? ⟨nt, 3, none⟩ = some (.int .i64 0) := (Ft.out.ext xq2).c 3 rfl; have zt3 : wq2.frozen? ⟨nt, 3, none⟩ = false := (Ft.out.ext xq2).f 3 rfl)
        have Fp : Hid (HV wq2 np [.int .i64 d.addr, .int .i64 d.id, .bool d.want, .int .i64 d.per, .int .i64 d.st, .int .i64 d.fails, .bool d.tried, .int .i64 d.left, .int .i64 d.bad, .bool wn, .int .i64 pr, .int .i64 ast, .slice da data.length dc]) := Fp.out.ext xq2
        have Fa : Hid (HV wq2 na [.int .i64 sd.addr, .int .i64 sd.id, .bool sd.want, .int .i64 sd.per, .int .i64 sd.st, .int .i64 sd.fails, .bool sd.tried, .int .i64 sd.left, .int .i64 sd.bad]) := Fa.out.ext xq2
        have Fc : Hid (HV wq2 nc [.int .i64 0, .int .i64 0, .bool false, .int .i64 0, .int .i64 0, .int .i64 0, .bool false, .int .i64 0, .int .i64 0]) := Fc.out.ext xq2
        have Ft : Hid (HV wq2 nt [.int .i64 0, .int .i64 0, .slice none 0 0, .int .i64 0]) := Ft.out.ext xq2
        have FX : Hid (Ext w wq2) := FX.out.trans xq2
        clear qp0 qp1 qp2 qp3 qp4 qp5 qp6 qp7 qp8 xq2 HN1 kt0 kt1 kt2 kt3 zt0 zt1 zt2 zt3
        have Fp : Hid (HV ((((wq2.setCell ⟨nt, 0, none⟩ (.int .i64 0)).setCell ⟨nt, 1, none⟩ (.int .i64 0)).setCell ⟨nt, 2, none⟩ (.slice none 0 0)).setCell ⟨nt, 3, none⟩ (.int .i64 0)) np [.int .i64 d.addr, .int .i64 d.id, .bool d.want, .int .i64 d.per, .int .i64 d.st, .int .i64 d.fails, .bool d.tried, .int .i64 d.left, .int .i64 d.bad, .bool wn, .int .i64 pr, .int .i64 ast, .slice da data.length dc]) := ((((Fp.out.far (by omega)).far (by omega)).far (by omega)).far (by omega))
        have Fa : Hid (HV ((((wq2.setCell ⟨nt, 0, none⟩ (.int .i64 0)).setCell ⟨nt, 1, none⟩ (.int .i64 0)).setCell ⟨nt, 2, none⟩ (.slice none 0 0)).setCell ⟨nt, 3, none⟩ (.int .i64 0)) na [.int .i64 sd.addr, .int .i64 sd.id, .bool sd.want, .int .i64 sd.per, .int .i64 sd.st, .int .i64 sd.fails, .bool sd.tried, .int .i64 sd.left, .int .i64 sd.bad]) := ((((Fa.out.far (by omega)).far (by omega)).far (by omega)).far (by omega))
        have Fc : Hid (HV ((((wq2.setCell ⟨nt, 0, none⟩ (.int .i64 0)).setCell ⟨nt, 1, none⟩ (.int .i64 0)).setCell ⟨nt, 2, none⟩ (.slice none 0 0)).setCell ⟨nt, 3, none⟩ (.int .i64 0)) nc [.int .i64 0, .int .i64 0, .bool false, .int .i64 0, .int .i64 0, .int .i64 0, .bool false, .int .i64 0, .int .i64 0]) := ((((Fc.out.far (by omega)).far (by omega)).far (by omega)).far (by omega))
        have Ft : Hid (HV ((((wq2.setCell ⟨nt, 0, none⟩ (.int .i64 0)).setCell ⟨nt, 1, none⟩ (.int .i64 0)).setCell ⟨nt, 2, none⟩ (.slice none 0 0)).setCell ⟨nt, 3, none⟩ (.int .i64 0)) nt [.int .i64 0, .int .i64 0, .slice none 0 0, .int .i64 0]) := ((((Ft.out.set 0 (.int .i64 0)).set 1 (.int .i64 0)).set 2 (.slice none 0 0)).set 3 (.int .i64 0))
        have FX : Hid (Ext w ((((wq2.setCell ⟨nt, 0, none⟩ (.int .i64 0)).setCell ⟨nt, 1, none⟩ (.int .i64 0)).setCell ⟨nt, 2, none⟩ (.slice none 0 0)).setCell ⟨nt, 3, none⟩ (.int .i64 0))) := ((((FX.out.set (p := ⟨nt, 0, none⟩) Lt.out (.int .i64 0)).set (p := ⟨nt, 1, none⟩) Lt.out (.int .i64 0)).set (p := ⟨nt, 2, none⟩) Lt.out (.slice none 0 0)).set (p := ⟨nt, 3, none⟩) Lt.out (.int .i64 0))
        generalize ((((wq2.setCell ⟨nt, 0, none⟩ (.int .i64 0)).setCell ⟨nt, 1, none⟩ (.int .i64 0)).setCell ⟨nt, 2, none⟩ (.slice none 0 0)).setCell ⟨nt, 3, none⟩ (.int .i64 0)) = wx26 at *
        have qt0 : wx26.cell? ⟨nt, 0, none⟩ = some (.int .i64 0) := Ft.out.c 0 rfl
        have qt1 : wx26.cell? ⟨nt, 1, none⟩ = some (.int .i64 0) := Ft.out.c 1 rfl
        have qt2 : wx26.cell? ⟨nt, 2, none⟩ = some (.slice none 0 0) := Ft.out.c 2 rfl
        have qt3 : wx26.cell? ⟨nt, 3, none⟩ = some (.int .i64 0) := Ft.out.c 3 rfl
        have zt0 : wx26.frozen? ⟨nt, 0, none⟩ = false := Ft.out.f 0 rfl
        have zt1 : wx26.frozen? ⟨nt, 1, none⟩ = false := Ft.out.f 1 rfl
        have zt2 : wx26.frozen? ⟨nt, 2, none⟩ = false := Ft.out.f 2 rfl
        have zt3 : wx26.frozen? ⟨nt, 3, none⟩ = false := Ft.out.f 3 rfl
        go_wp2_with fail
        go_meet
        clear qt0 qt1 qt2 qt3 zt0 zt1 zt2 zt3
        have Fp : Hid (HV ((((wx26.setCell ⟨nt, 0, none⟩ (.int .i64 0)).setCell ⟨nt, 1, none⟩ (.int .i64 0)).setCell ⟨nt, 2, none⟩ (.slice none 0 0)).setCell ⟨nt, 3, none⟩ (.int .i64 0)) np [.int .i64 d.addr, .int .i64 d.id, .bool d.want, .int .i64 d.per, .int .i64 d.st, .int .i64 d.fails, .bool d.tried, .int .i64 d.left, .int .i64 d.bad, .bool wn, .int .i64 pr, .int .i64 ast, .slice da data.length dc]) := ((((Fp.out.far (by omega)).far (by omega)).far (by omega)).far (by omega))
        have Fa : Hid (HV ((((wx26.setCell ⟨nt, 0, none⟩ (.int .i64 0)).setCell ⟨nt, 1, none⟩ (.int .i64 0)).setCell ⟨nt, 2, none⟩ (.slice none 0 0)).setCell ⟨nt, 3, none⟩ (.int .i64 0)) na [.int .i64 sd.addr, .int .i64 sd.id, .bool sd.want, .int .i64 sd.per, .int .i64 sd.st, .int .i64 sd.fails, .bool sd.tried, .int .i64 sd.left, .int .i64 sd.bad]) := ((((Fa.out.far (by omega)).far (by omega)).far (by omega)).far (by omega))
        have Fc : Hid (HV ((((wx26.setCell ⟨nt, 0, none⟩ (.int .i64 0)).setCell ⟨nt, 1, none⟩ (.int .i64 0)).setCell ⟨nt, 2, none⟩ (.slice none 0 0)).setCell ⟨nt, 3, none⟩ (.int .i64 0)) nc [.int .i64 0, .int .i64 0, .bool false, .int .i64 0, .int .i64 0, .int .i64 0, .bool false, .int .i64 0, .int .i64 0]) := ((((Fc.out.far (by omega)).far (by omega)).far (by omega)).far (by omega))
        have Ft : Hid (HV ((((wx26.setCell ⟨nt, 0, none⟩ (.int .i64 0)).setCell ⟨nt, 1, none⟩ (.int .i64 0)).setCell ⟨nt, 2, none⟩ (.slice none 0 0)).setCell ⟨nt, 3, none⟩ (.int .i64 0)) nt [.int .i64 0, .int .i64 0, .slice none 0 0, .int .i64 0]) := ((((Ft.out.set 0 (.int .i64 0)).set 1 (.int .i64 0)).set 2 (.slice none 0 0)).set 3 (.int .i64 0))
        have FX : Hid (Ext w ((((wx26.setCell ⟨nt, 0, none⟩ (.int .i64 0)).setCell ⟨nt, 1, none⟩ (.int .i64 0)).setCell ⟨nt, 2, none⟩ (.slice none 0 0)).setCell ⟨nt, 3, none⟩ (.int .i64 0))) := ((((FX.out.set (p := ⟨nt, 0, none⟩) Lt.out (.int .i64 0)).set (p := ⟨nt, 1, none⟩) Lt.out (.int .i64 0)).set (p := ⟨nt, 2, none⟩) Lt.out (.slice none 0 0)).set (p := ⟨nt, 3, none⟩) Lt.out (.int .i64 0))
        generalize ((((wx26.setCell ⟨nt, 0, none⟩ (.int .i64 0)).setCell ⟨nt, 1, none⟩ (.int .i64 0)).setCell ⟨nt, 2, none⟩ (.slice none 0 0)).setCell ⟨nt, 3, none⟩ (.int .i64 0)) = wx27 at *
        exact ⟨false, 1, 0, 0, 0, none, [], 0, rfl, rfl, ⟨Fp.out, Fa.out, Fc.out, Ft.out, FX.out⟩, ⟨rdy_nil _ _ _, by simp⟩, HN2, ⟨fun h => by omega, fun _ => ⟨rfl, .inr HTK.out⟩⟩⟩
      · have HN1 : Hid (∀ W, Calls Try.prog 16 #[.agg #[.int .i64 d.addr, .int .i64 d.id, .bool d.want, .int .i64 d.per, .int .i64 d.st, .int .i64 d.fails, .bool d.tried, .int .i64 d.left, .int .i64 d.bad]] W fun e w' => ∃ a c, e = .returned (.tuple #[txw d.addr (txReg d.st) a (txWr d).length c (txRd d), .bool true]) ∧ RdY w' W.heap.size a (txWr d) ∧ Ext W w') := rnext_some d hin
        have HN2 : Hid (∀ W, Calls Try.prog 9 #[.agg #[.int .i64 d.addr, .int .i64 d.id, .bool d.want, .int .i64 d.per, .int .i64 d.st, .int .i64 d.fails, .bool d.tried, .int .i64 d.left, .int .i64 d.bad]] W fun e w' => ∃ a c, e = .returned (.tuple #[txw d.addr (txReg d.st) a (txWr d).length c (txRd d), .bool true, .int .i64 0]) ∧ RdY w' W.heap.size a (txWr d) ∧ Ext W w') := next_some d e3 hin
        have HTK : Hid (okD d = true ∧ inn d.st 1 7 = true) := ⟨e3, hin⟩
        have HTL : Hid ((txWr d).length ≤ 100000) := txwr_len d
        clear hin e3
        generalize txReg d.st = tr at *
        generalize txWr d = tw at *
        generalize txRd d = tq at *
        have qp0 : wv5.cell? ⟨np, 0, none⟩ = some (.int .i64 d.addr) := Fp.out.c 0 rfl
        have qp1 : wv5.cell? ⟨np, 1, none⟩ = some (.int .i64 d.id) := Fp.out.c 1 rfl
        have qp2 : wv5.cell? ⟨np, 2, none⟩ = some (.bool d.want) := Fp.out.c 2 rfl
        have qp3 : wv5.cell? ⟨np, 3, none⟩ = some (.int .i64 d.per) := Fp.out.c 3 rfl
        have qp4 : wv5.cell? ⟨np, 4, none⟩ = some (.int .i64 d.st) := Fp.out.c 4 rfl
        have qp5 : wv5.cell? ⟨np, 5, none⟩ = some (.int .i64 d.fails) := Fp.out.c 5 rfl
        have qp6 : wv5.cell? ⟨np, 6, none⟩ = some (.bool d.tried) := Fp.out.c 6 rfl
        have qp7 : wv5.cell? ⟨np, 7, none⟩ = some (.int .i64 d.left) := Fp.out.c 7 rfl
        have qp8 : wv5.cell? ⟨np, 8, none⟩ = some (.int .i64 d.bad) := Fp.out.c 8 rfl
        go_wp2_with (go_at_call 16; refine (HN1.out _).mono ?_; rintro e wq2 ⟨ta1, tc1, rfl, ry1, xq2⟩; (try dsimp only); have kt0 : wq2.cell? ⟨nt, 0, none⟩ = some (.int .i64 0) := (Ft.out.ext xq2).c 0 rfl; have kt1 : wq2.cell? ⟨nt, 1, none⟩ = some (.int .i64 0) := (Ft.out.ext xq2).c 1 rfl; have kt2 : wq2.cell? ⟨nt, 2, none⟩ = some (.slice none 0 0) := (Ft.out.ext xq2).c 2 rfl; have kt3 : wq2.cell? ⟨nt, 3, none⟩ = some (.int .i64 0) := (Ft.out.ext xq2).c 3 rfl; have yt0 : wq2.frozen? ⟨nt, 0, none⟩ = false := (Ft.out.ext xq2).f 0 rfl; have yt1 : wq2.frozen? ⟨nt, 1, none⟩ = false := (Ft.out.ext xq2).f 1 rfl; have yt2 : wq2.frozen? ⟨nt, 2, none⟩ = false := (Ft.out.ext xq2).f 2 rfl; have yt3 : wq2.frozen? ⟨nt, 3, none⟩ = false := (Ft.out.ext xq2).f 3 rfl)
        go_meet
        have RY1 : Hid (RdY wq2 lo ta1 tw) := ry1.base (Nat.le_of_eq HLO.out.symm)
        have Fp : Hid (HV wq2 np [.int .i64 d.addr, .int .i64 d.id, .bool d.want, .int .i64 d.per, .int .i64 d.st, .int .i64 d.fails, .bool d.tried, .int .i64 d.left, .int .i64 d.bad, .bool wn, .int .i64 pr, .int .i64 ast, .slice da data.length dc]) := Fp.out.ext xq2
        have Fa : Hid (HV wq2 na [.int .i64 sd.addr, .int .i64 sd.id, .bool sd.want, .int .i64 sd.per, .int .i64 sd.st, .int .i64 sd.fails, .bool sd.tried, .int .i64 sd.left, .int .i64 sd.bad]) := Fa.out.ext xq2
        have Fc : Hid (HV wq2 nc [.int .i64 0, .int .i64 0, .bool false, .int .i64 0, .int .i64 0, .int .i64 0, .bool false, .int .i64 0, .int .i64 0]) := Fc.out.ext xq2
        have Ft : Hid (HV wq2 nt [.int .i64 0, .int .i64 0, .slice none 0 0, .int .i64 0]) := Ft.out.ext xq2
        have FX : Hid (Ext w wq2) := FX.out.trans xq2
        clear qp0 qp1 qp2 qp3 qp4 qp5 qp6 qp7 qp8 xq2 HN1 ry1 kt0 kt1 kt2 kt3 yt0 yt1 yt2 yt3
        have RY2 : Hid (RdY ((((wq2.setCell ⟨nt, 0, none⟩ (.int .i64 (d.addr))).setCell ⟨nt, 1, none⟩ (.int .i64 tr)).setCell ⟨nt, 2, none⟩ (.slice ta1 tw.length tc1)).setCell ⟨nt, 3, none⟩ (.int .i64 tq)) lo ta1 tw) := rdy_tn RY1.out (((((Tn.refl (fun k => k = nt) wq2).set (.inl rfl) _ _).set (.inl rfl) _ _).set (.inl rfl) _ _).set (.inl rfl) _ _) (fun k h1 h2 => by have := LO.out; omega)
        have Fp : Hid (HV ((((wq2.setCell ⟨nt, 0, none⟩ (.int .i64 (d.addr))).setCell ⟨nt, 1, none⟩ (.int .i64 tr)).setCell ⟨nt, 2, none⟩ (.slice ta1 tw.length tc1)).setCell ⟨nt, 3, none⟩ (.int .i64 tq)) np [.int .i64 d.addr, .int .i64 d.id, .bool d.want, .int .i64 d.per, .int .i64 d.st, .int .i64 d.fails, .bool d.tried, .int .i64 d.left, .int .i64 d.bad, .bool wn, .int .i64 pr, .int .i64 ast, .slice da data.length dc]) := ((((Fp.out.far (by omega)).far (by omega)).far (by omega)).far (by omega))
        have Fa : Hid (HV ((((wq2.setCell ⟨nt, 0, none⟩ (.int .i64 (d.addr))).setCell ⟨nt, 1, none⟩ (.int .i64 tr)).setCell ⟨nt, 2, none⟩ (.slice ta1 tw.length tc1)).setCell ⟨nt, 3, none⟩ (.int .i64 tq)) na [.int .i64 sd.addr, .int .i64 sd.id, .bool sd.want, .int .i64 sd.per, .int .i64 sd.st, .int .i64 sd.fails, .bool sd.tried, .int .i64 sd.left, .int .i64 sd.bad]) := ((((Fa.out.far (by omega)).far (by omega)).far (by omega)).far (by omega))
        have Fc : Hid (HV ((((wq2.setCell ⟨nt, 0, none⟩ (.int .i64 (d.addr))).setCell ⟨nt, 1, none⟩ (.int .i64 tr)).setCell ⟨nt, 2, none⟩ (.slice ta1 tw.length tc1)).setCell ⟨nt, 3, none⟩ (.int .i64 tq)) nc [.int .i64 0, .int .i64 0, .bool false, .int .i64 0, .int .i64 0, .int .i64 0, .bool false, .int .i64 0, .int .i64 0]) := ((((Fc.out.far (by omega)).far (by omega)).far (by omega)).far (by omega))
        have Ft : Hid (HV ((((wq2.setCell ⟨nt, 0, none⟩ (.int .i64 (d.addr))).setCell ⟨nt, 1, none⟩ (.int .i64 tr)).setCell ⟨nt, 2, none⟩ (.slice ta1 tw.length tc1)).setCell ⟨nt, 3, none⟩ (.int .i64 tq)) nt [.int .i64 (d.addr), .int .i64 tr, .slice ta1 tw.length tc1, .int .i64 tq]) := ((((Ft.out.set 0 (.int .i64 (d.addr))).set 1 (.int .i64 tr)).set 2 (.slice ta1 tw.length tc1)).set 3 (.int .i64 tq))
        have FX : Hid (Ext w ((((wq2.setCell ⟨nt, 0, none⟩ (.int .i64 (d.addr))).setCell ⟨nt, 1, none⟩ (.int .i64 tr)).setCell ⟨nt, 2, none⟩ (.slice ta1 tw.length tc1)).setCell ⟨nt, 3, none⟩ (.int .i64 tq))) := ((((FX.out.set (p := ⟨nt, 0, none⟩) Lt.out (.int .i64 (d.addr))).set (p := ⟨nt, 1, none⟩) Lt.out (.int .i64 tr)).set (p := ⟨nt, 2, none⟩) Lt.out (.slice ta1 tw.length tc1)).set (p := ⟨nt, 3, none⟩) Lt.out (.int .i64 tq))
        generalize ((((wq2.setCell ⟨nt, 0, none⟩ (.int .i64 (d.addr))).setCell ⟨nt, 1, none⟩ (.int .i64 tr)).setCell ⟨nt, 2, none⟩ (.slice ta1 tw.length tc1)).setCell ⟨nt, 3, none⟩ (.int .i64 tq)) = wx26 at *
        exact ⟨true, 0, d.addr, tr, tq, ta1, tw, tc1, rfl, rfl, ⟨Fp.out, Fa.out, Fc.out, Ft.out, FX.out⟩, ⟨RY2.out, HTL.out⟩, HN2, ⟨fun _ => HTK.out, fun h => absurd rfl h⟩⟩
  case rest =>
    obtain ⟨so, tk, x0, tr, tq, ta, tw, tc, rfl, rfl, hC, hRY, HNX, HTK⟩ := hcut
    clear Fp Fa Fc Ft FX
    obtain ⟨gp, ga, gc, gt, gX⟩ := hC.out
    have Fp : Hid (HV wc np [.int .i64 d.addr, .int .i64 d.id, .bool d.want, .int .i64 d.per, .int .i64 d.st, .int .i64 d.fails, .bool d.tried, .int .i64 d.left, .int .i64 d.bad, .bool wn, .int .i64 pr, .int .i64 ast, .slice da data.length dc]) := gp
    have Fa : Hid (HV wc na [.int .i64 sd.addr, .int .i64 sd.id, .bool sd.want, .int .i64 sd.per, .int .i64 sd.st, .int .i64 sd.fails, .bool sd.tried, .int .i64 sd.left, .int .i64 sd.bad]) := ga
    have Fc : Hid (HV wc nc [.int .i64 0, .int .i64 0, .bool false, .int .i64 0, .int .i64 0, .int .i64 0, .bool false, .int .i64 0, .int .i64 0]) := gc
    have Ft : Hid (HV wc nt [.int .i64 x0, .int .i64 tr, .slice ta tw.length tc, .int .i64 tq]) := gt
    have FX : Hid (Ext w wc) := gX
    clear hC gp ga gc gt gX
    generalize wc = wv6 at *
    rename_i KR hKR
    refine hKR _ _ ?_
    exact dexact2 w wv6 d sd okd wn bd sv pr ast data da dc np na nc nt so tk x0 tr tq ta tw tc lo _ _ rfl rfl _ _ _ _ _ _ _ _ _ _ _ _ _ _ _ _ _ _ _ _ _ _ _ _ _ _ _ _ _ _ _ _ _ _ _ _ _ _ _ _ _ _ _ _ _ _ _ _ _ _ _ _ _ _ _ _ _ _ _ _ _ _ _ _ _ _ _ _ _ _ _ _ _ _ _ _ _ _ _ _ _ _ _ _ _ _ _ _ _ _ _ _ _ _ _ _ _ _ _ _ _ _ _ _ _ _ _ _ _ _ _ _ _ _ _ _ _ _ _ _ _ _ _ _ _ _ _ _ _ _ _ _ _ _ _ _ _ _ _ _ _ _ _ _ _ _ _ _ _ _ _ _ _ _ _ _ _ _ _ _ _ _ _ _ _ _ _ _ _ _ _ _ _ _ _ _ _ _ _ _ _ _ _ _ _ _ _ _ _ _ _ _ _ _ _ _ _ _ _ _ _ _ _ _ _ _ _ _ _ _ _ _ _ _ _ _ _ _ _ _ _ _ QQ hQ ltpa ltac ltct HNU HSC HOK HBD HRD0 HRD H400 HNX HTK hRY LO Lc Fp Fa Fc Ft FX
end Go.Proofs.Ytdfhhfpfnkjbnaa
