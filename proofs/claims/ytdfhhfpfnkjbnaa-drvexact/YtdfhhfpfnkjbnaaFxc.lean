/- DrvExact: what a round does from region 10 on. -/
import Derived.Test.YtdfhhfpfnkjbnaaFxd
namespace Go.Proofs.Ytdfhhfpfnkjbnaa
open Go.RowKit Go.Conc
set_option maxRecDepth 20000 in
set_option maxHeartbeats 16000000 in
theorem dexactc (w wm : World) (d : Dr) (okd wn : Bool) (bd pr ast : Int) (data : List Int) (da : Option Addr) (dc np : Nat) (bd0 cd : Code) (hbd : Try.f5.body = some bd0) (hcd : cd = rgt [(), (), (), ()] (inn1 (lft (rgt [()] (inn1 (inn1 (rgt [()] (lft (rgt [()] bd0))))))))) (z0 z1 z2 z3 z6 z7 z8 z9 z10 z11 z12 z13 z14 z15 z16 z17 z18 z19 z20 z21 z22 z23 z24 z25 z26 z27 z28 z29 z30 z31 z32 z33 z34 z35 z36 z37 z38 z39 z40 z41 z42 z43 z44 z45 z46 z47 z48 z49 z50 z51 z52 z53 z54 z55 z56 z57 z58 z59 z60 z61 z62 z63 z64 z65 z66 z67 z68 z69 z70 z71 z72 z73 z74 z75 z76 z77 z78 z79 z80 z81 z82 z83 z84 z85 z86 z87 z88 z89 z90 z91 z92 z93 z94 z95 z96 z97 z98 z99 z100 z101 z102 z103 z104 z105 z106 z107 z108 z109 z110 z111 z112 z113 z114 z115 z116 z117 z118 z119 z120 z121 z122 z123 z124 z125 z126 z127 z128 z129 z130 z131 z132 z133 z134 z135 z136 z137 z138 z139 z140 z141 z142 z143 z144 z145 z146 z147 z148 z149 z150 z151 z152 z153 z154 z155 z156 z157 z158 z159 z160 z161 z162 z163 z164 z165 z166 z167 z168 z169 z170 z171 z172 z173 z174 z175 z176 z177 z178 z179 z180 z181 z182 z183 z184 z185 z186 z187 z188 z189 z190 z191 z192 z193 z194 z195 z196 z197 z198 z199 z200 z201 z202 z203 z204 z205 z206 z207 z208 z209 z210 z211 z212 z213 z214 z215 z216 z217 z218 z219 z220 z221 z222 z223 z224 z225 z226 z227 z228 z229 z230 z231 z232 : Value) (QQ : Exit → Act → World → Prop)
    (hQ : Hid (∀ (y4 y5 y6 y7 y8 y9 y10 y11 y12 y13 y14 y15 y16 y17 y18 y19 y20 y21 y22 y23 y24 y25 y26 y27 y28 y29 y30 y31 y32 y33 y34 y35 y36 y37 y38 y39 y40 y41 y42 y43 y44 y45 y46 y47 y48 y49 y50 y51 y52 y53 y54 y55 y56 y57 y58 y59 y60 y61 y62 y63 y64 y65 y66 y67 y68 y69 y70 y71 y72 y73 y74 y75 y76 y77 y78 y79 y80 y81 y82 y83 y84 y85 y86 y87 y88 y89 y90 y91 y92 y93 y94 y95 y96 y97 y98 y99 y100 y101 y102 y103 y104 y105 y106 y107 y108 y109 y110 y111 y112 y113 y114 y115 y116 y117 y118 y119 y120 y121 y122 y123 y124 y125 y126 y127 y128 y129 y130 y131 y132 y133 y134 y135 y136 y137 y138 y139 y140 y141 y142 y143 y144 y145 y146 y147 y148 y149 y150 y151 y152 y153 y154 y155 y156 y157 y158 y159 y160 y161 y162 y163 y164 y165 y166 y167 y168 y169 y170 y171 y172 y173 y174 y175 y176 y177 y178 y179 y180 y181 y182 y183 y184 y185 y186 y187 y188 y189 y190 y191 y192 y193 y194 y195 y196 y197 y198 y199 y200 y201 y202 y203 y204 y205 y206 y207 y208 y209 y210 y211 y212 y213 y214 y215 y216 y217 y218 y219 y220 y221 y222 y223 y224 y225 y226 y227 y228 y229 y230 y231 : Value) (w' : World), Hid (Ext w w') → QQ Exit.normal { tmps := #[z0, z1, z2, z3, y4, y5, y6, y7, y8, y9, y10, y11, y12, y13, y14, y15, y16, y17, y18, y19, y20, y21, y22, y23, y24, y25, y26, y27, y28, y29, y30, y31, y32, y33, y34, y35, y36, y37, y38, y39, y40, y41, y42, y43, y44, y45, y46, y47, y48, y49, y50, y51, y52, y53, y54, y55, y56, y57, y58, y59, y60, y61, y62, y63, y64, y65, y66, y67, y68, y69, y70, y71, y72, y73, y74, y75, y76, y77, y78, y79, y80, y81, y82, y83, y84, y85, y86, y87, y88, y89, y90, y91, y92, y93, y94, y95, y96, y97, y98, y99, y100, y101, y102, y103, y104, y105, y106, y107, y108, y109, y110, y111, y112, y113, y114, y115, y116, y117, y118, y119, y120, y121, y122, y123, y124, y125, y126, y127, y128, y129, y130, y131, y132, y133, y134, y135, y136, y137, y138, y139, y140, y141, y142, y143, y144, y145, y146, y147, y148, y149, y150, y151, y152, y153, y154, y155, y156, y157, y158, y159, y160, y161, y162, y163, y164, y165, y166, y167, y168, y169, y170, y171, y172, y173, y174, y175, y176, y177, y178, y179, y180, y181, y182, y183, y184, y185, y186, y187, y188, y189, y190, y191, y192, y193, y194, y195, y196, y197, y198, y199, y200, y201, y202, y203, y204, y205, y206, y207, y208, y209, y210, y211, y212, y213, y214, y215, y216, y217, y218, y219, y220, y221, y222, y223, y224, y225, y226, y227, y228, y229, y230, y231, z232], defers := [] } w'))
    (HNU : Hid (∀ v w', Calls Try.prog 11 #[.int .i64 v] w' fun e w'' => e = .returned (.int .i64 v) ∧ w'' = w')) (HOK : Hid (okD d = okd)) (HBD : Hid (bd = if okd = true then 0 else 1)) (HRD0 : Hid (RdY w 0 da data ∧ data.length ≤ dc ∧ ∀ j, 0 ≤ data.getD j 0 ∧ data.getD j 0 ≤ 255)) (HRD : Hid (∀ W, Ext w W → RdY W 0 da data)) (H400 : Hid (data.length ≤ 400)) (Fp : Hid (HV wm np [.int .i64 d.addr, .int .i64 d.id, .bool d.want, .int .i64 d.per, .int .i64 d.st, .int .i64 d.fails, .bool d.tried, .int .i64 d.left, .int .i64 d.bad, .bool wn, .int .i64 pr, .int .i64 ast, .slice da data.length dc])) (FX : Hid (Ext w wm)) :
    Code.wp Try.prog cd QQ { tmps := #[z0, z1, z2, z3, .pointer (some ⟨np, 0, none⟩), .int .i64 bd, z6, z7, z8, z9, z10, z11, z12, z13, z14, z15, z16, z17, z18, z19, z20, z21, z22, z23, z24, z25, z26, z27, z28, z29, z30, z31, z32, z33, z34, z35, z36, z37, z38, z39, z40, z41, z42, z43, z44, z45, z46, z47, z48, z49, z50, z51, z52, z53, z54, z55, z56, z57, z58, z59, z60, z61, z62, z63, z64, z65, z66, z67, z68, z69, z70, z71, z72, z73, z74, z75, z76, z77, z78, z79, z80, z81, z82, z83, z84, z85, z86, z87, z88, z89, z90, z91, z92, z93, z94, z95, z96, z97, z98, z99, z100, z101, z102, z103, z104, z105, z106, z107, z108, z109, z110, z111, z112, z113, z114, z115, z116, z117, z118, z119, z120, z121, z122, z123, z124, z125, z126, z127, z128, z129, z130, z131, z132, z133, z134, z135, z136, z137, z138, z139, z140, z141, z142, z143, z144, z145, z146, z147, z148, z149, z150, z151, z152, z153, z154, z155, z156, z157, z158, z159, z160, z161, z162, z163, z164, z165, z166, z167, z168, z169, z170, z171, z172, z173, z174, z175, z176, z177, z178, z179, z180, z181, z182, z183, z184, z185, z186, z187, z188, z189, z190, z191, z192, z193, z194, z195, z196, z197, z198, z199, z200, z201, z202, z203, z204, z205, z206, z207, z208, z209, z210, z211, z212, z213, z214, z215, z216, z217, z218, z219, z220, z221, z222, z223, z224, z225, z226, z227, z228, z229, z230, z231, z232], defers := [] } wm := by
  subst hcd
  simp only [Try.f5] at hbd
  injection hbd with hbd
  subst hbd
  simp only [rgt, lft, inn1]
  go_upto_region 11 with fail
  have qp10 : wm.cell? ⟨np, 10, none⟩ = some (.int .i64 pr) := Fp.out.c 10 rfl
  by_cases g1 : pr < 1
  · have HPO : Hid (inn pr 1 250 = false) := inn_not.2 (by omega)
    have e1 : decide (pr < 1) = true := by simpa using g1
    clear g1
    go_upto_if 62 with fail
    clear qp10 e1
    go_cut [6] from 29 to 231 (fun v6 wx => v6 = .int .i64 1 ∧ Hid (wm = wx))
    case first =>
      go_wp2_with fail
      go_meet
      exact ⟨rfl, rfl⟩
    case rest =>
      obtain ⟨rfl, hwc⟩ := hcut
      have hwc2 : wm = wc := hwc.out
      clear hwc
      subst hwc2
      first | (rename_i hKR; refine hKR _ _ ?_) | (rename_i hKR _; refine hKR _ _ ?_) | (rename_i hKR _ _; refine hKR _ _ ?_) | (rename_i hKR _ _ _; refine hKR _ _ ?_) | (rename_i hKR _ _ _ _; refine hKR _ _ ?_) | (rename_i hKR _ _ _ _ _; refine hKR _ _ ?_) | (rename_i hKR _ _ _ _ _ _; refine hKR _ _ ?_) | (rename_i hKR _ _ _ _ _ _ _; refine hKR _ _ ?_)
      exact dexactd w wm d okd wn false bd 1 pr ast data da dc np _ _ rfl rfl _ _ _ _ _ _ _ _ _ _ _ _ _ _ _ _ _ _ _ _ _ _ _ _ _ _ _ _ _ _ _ _ _ _ _ _ _ _ _ _ _ _ _ _ _ _ _ _ _ _ _ _ _ _ _ _ _ _ _ _ _ _ _ _ _ _ _ _ _ _ _ _ _ _ _ _ _ _ _ _ _ _ _ _ _ _ _ _ _ _ _ _ _ _ _ _ _ _ _ _ _ _ _ _ _ _ _ _ _ _ _ _ _ _ _ _ _ _ _ _ _ _ _ _ _ _ _ _ _ _ _ _ _ _ _ _ _ _ _ _ _ _ _ _ _ _ _ _ _ _ _ _ _ _ _ _ _ _ _ _ _ _ _ _ _ _ _ _ _ _ _ _ _ _ _ _ _ _ _ _ _ _ _ _ _ _ _ _ _ _ _ _ _ _ _ _ _ _ _ _ _ _ _ _ _ _ _ _ _ _ _ _ _ _ _ _ _ _ _ _ _ _ _ _ _ _ _ _ QQ hQ HNU HOK HBD rfl HPO HRD0 HRD H400 Fp FX
  · have e1 : decide (pr < 1) = false := by simpa using g1
    by_cases g2 : 250 < pr
    · have HPO : Hid (inn pr 1 250 = false) := inn_not.2 (by omega)
      have e2 : decide (250 < pr) = true := by simpa using g2
      clear g1 g2
      go_upto_if 62 with fail
      clear qp10 e1 e2
      go_cut [6] from 29 to 231 (fun v6 wx => v6 = .int .i64 1 ∧ Hid (wm = wx))
      case first =>
        go_wp2_with fail
        go_meet
        exact ⟨rfl, rfl⟩
      case rest =>
        obtain ⟨rfl, hwc⟩ := hcut
        have hwc2 : wm = wc := hwc.out
        clear hwc
        subst hwc2
        first | (rename_i hKR; refine hKR _ _ ?_) | (rename_i hKR _; refine hKR _ _ ?_) | (rename_i hKR _ _; refine hKR _ _ ?_) | (rename_i hKR _ _ _; refine hKR _ _ ?_) | (rename_i hKR _ _ _ _; refine hKR _ _ ?_) | (rename_i hKR _ _ _ _ _; refine hKR _ _ ?_) | (rename_i hKR _ _ _ _ _ _; refine hKR _ _ ?_) | (rename_i hKR _ _ _ _ _ _ _; refine hKR _ _ ?_)
        exact dexactd w wm d okd wn false bd 1 pr ast data da dc np _ _ rfl rfl _ _ _ _ _ _ _ _ _ _ _ _ _ _ _ _ _ _ _ _ _ _ _ _ _ _ _ _ _ _ _ _ _ _ _ _ _ _ _ _ _ _ _ _ _ _ _ _ _ _ _ _ _ _ _ _ _ _ _ _ _ _ _ _ _ _ _ _ _ _ _ _ _ _ _ _ _ _ _ _ _ _ _ _ _ _ _ _ _ _ _ _ _ _ _ _ _ _ _ _ _ _ _ _ _ _ _ _ _ _ _ _ _ _ _ _ _ _ _ _ _ _ _ _ _ _ _ _ _ _ _ _ _ _ _ _ _ _ _ _ _ _ _ _ _ _ _ _ _ _ _ _ _ _ _ _ _ _ _ _ _ _ _ _ _ _ _ _ _ _ _ _ _ _ _ _ _ _ _ _ _ _ _ _ _ _ _ _ _ _ _ _ _ _ _ _ _ _ _ _ _ _ _ _ _ _ _ _ _ _ _ _ _ _ _ _ _ _ _ _ _ _ _ _ _ _ _ _ QQ hQ HNU HOK HBD rfl HPO HRD0 HRD H400 Fp FX
    · have HPO : Hid (inn pr 1 250 = true) := inn_iff.2 (by omega)
      have e2 : decide (250 < pr) = false := by simpa using g2
      clear g1 g2
      go_upto_if 62 with fail
      clear qp10 e1 e2
      go_cut [6] from 29 to 231 (fun v6 wx => v6 = .int .i64 bd ∧ Hid (wm = wx))
      case first =>
        go_wp2_with fail
        go_meet
        exact ⟨rfl, rfl⟩
      case rest =>
        obtain ⟨rfl, hwc⟩ := hcut
        have hwc2 : wm = wc := hwc.out
        clear hwc
        subst hwc2
        first | (rename_i hKR; refine hKR _ _ ?_) | (rename_i hKR _; refine hKR _ _ ?_) | (rename_i hKR _ _; refine hKR _ _ ?_) | (rename_i hKR _ _ _; refine hKR _ _ ?_) | (rename_i hKR _ _ _ _; refine hKR _ _ ?_) | (rename_i hKR _ _ _ _ _; refine hKR _ _ ?_) | (rename_i hKR _ _ _ _ _ _; refine hKR _ _ ?_) | (rename_i hKR _ _ _ _ _ _ _; refine hKR _ _ ?_)
        exact dexactd w wm d okd wn true bd bd pr ast data da dc np _ _ rfl rfl _ _ _ _ _ _ _ _ _ _ _ _ _ _ _ _ _ _ _ _ _ _ _ _ _ _ _ _ _ _ _ _ _ _ _ _ _ _ _ _ _ _ _ _ _ _ _ _ _ _ _ _ _ _ _ _ _ _ _ _ _ _ _ _ _ _ _ _ _ _ _ _ _ _ _ _ _ _ _ _ _ _ _ _ _ _ _ _ _ _ _ _ _ _ _ _ _ _ _ _ _ _ _ _ _ _ _ _ _ _ _ _ _ _ _ _ _ _ _ _ _ _ _ _ _ _ _ _ _ _ _ _ _ _ _ _ _ _ _ _ _ _ _ _ _ _ _ _ _ _ _ _ _ _ _ _ _ _ _ _ _ _ _ _ _ _ _ _ _ _ _ _ _ _ _ _ _ _ _ _ _ _ _ _ _ _ _ _ _ _ _ _ _ _ _ _ _ _ _ _ _ _ _ _ _ _ _ _ _ _ _ _ _ _ _ _ _ _ _ _ _ _ _ _ _ _ _ _ QQ hQ HNU HOK HBD rfl HPO HRD0 HRD H400 Fp FX
end Go.Proofs.Ytdfhhfpfnkjbnaa
