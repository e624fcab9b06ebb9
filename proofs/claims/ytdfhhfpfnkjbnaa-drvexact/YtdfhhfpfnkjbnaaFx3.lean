/- DrvExact: what a round does from region 27 on. -/
import Derived.Test.YtdfhhfpfnkjbnaaFx0
namespace Go.Proofs.Ytdfhhfpfnkjbnaa
open Go.RowKit Go.Conc
set_option maxRecDepth 20000 in
set_option maxHeartbeats 16000000 in
theorem dexact3 (w wv7 : World) (d sd : Dr) (okd wn : Bool) (bd sv pr ast : Int) (data : List Int) (da : Option Addr) (dc np na nc nt : Nat) (so fl : Bool) (tk x0 tr tq : Int) (ta : Option Addr) (tw : List Int) (tc lo : Nat) (md : Dr) (ra : Option Addr) (Lr : List Raw) (rb : Nat) (bd0 cd : Code) (hbd : Try.f5.body = some bd0) (hcd : cd = rgt [(), (), (), (), (), (), (), (), (), (), (), (), (), ()] (inn1 (lft (rgt [()] (inn1 (inn1 (rgt [()] (lft (rgt [()] bd0))))))))) (z0 z1 z2 z3 z15 z16 z17 z18 z19 z20 z21 z22 z23 z24 z25 z26 z27 z28 z29 z30 z31 z32 z33 z34 z35 z36 z37 z38 z39 z40 z41 z42 z43 z44 z45 z46 z47 z48 z49 z50 z51 z52 z53 z54 z55 z56 z57 z58 z59 z60 z61 z62 z63 z64 z65 z66 z67 z68 z69 z70 z71 z72 z73 z74 z75 z76 z77 z78 z79 z80 z81 z82 z83 z84 z85 z86 z87 z88 z89 z90 z91 z92 z93 z94 z95 z96 z97 z98 z99 z100 z101 z102 z103 z104 z105 z106 z107 z108 z109 z110 z111 z112 z113 z114 z115 z116 z117 z118 z119 z120 z121 z122 z123 z124 z125 z126 z127 z128 z129 z130 z131 z132 z133 z134 z135 z136 z137 z138 z139 z140 z141 z142 z143 z144 z145 z146 z147 z148 z149 z150 z151 z152 z153 z154 z155 z156 z157 z158 z159 z160 z161 z162 z163 z164 z165 z166 z167 z168 z169 z170 z171 z172 z173 z174 z175 z176 z177 z178 z179 z180 z181 z182 z183 z184 z185 z186 z187 z188 z189 z190 z191 z192 z193 z194 z195 z196 z197 z198 z199 z200 z201 z202 z203 z204 z205 z206 z207 z208 z209 z210 z211 z212 z213 z214 z215 z216 z217 z218 z219 z220 z221 z222 z223 z224 z225 z226 z227 z228 z229 z230 z231 z232 : Value) (QQ : Exit → Act → World → Prop)
    (hQ : Hid (∀ (y4 y5 y6 y7 y8 y9 y10 y11 y12 y13 y14 y15 y16 y17 y18 y19 y20 y21 y22 y23 y24 y25 y26 y27 y28 y29 y30 y31 y32 y33 y34 y35 y36 y37 y38 y39 y40 y41 y42 y43 y44 y45 y46 y47 y48 y49 y50 y51 y52 y53 y54 y55 y56 y57 y58 y59 y60 y61 y62 y63 y64 y65 y66 y67 y68 y69 y70 y71 y72 y73 y74 y75 y76 y77 y78 y79 y80 y81 y82 y83 y84 y85 y86 y87 y88 y89 y90 y91 y92 y93 y94 y95 y96 y97 y98 y99 y100 y101 y102 y103 y104 y105 y106 y107 y108 y109 y110 y111 y112 y113 y114 y115 y116 y117 y118 y119 y120 y121 y122 y123 y124 y125 y126 y127 y128 y129 y130 y131 y132 y133 y134 y135 y136 y137 y138 y139 y140 y141 y142 y143 y144 y145 y146 y147 y148 y149 y150 y151 y152 y153 y154 y155 y156 y157 y158 y159 y160 y161 y162 y163 y164 y165 y166 y167 y168 y169 y170 y171 y172 y173 y174 y175 y176 y177 y178 y179 y180 y181 y182 y183 y184 y185 y186 y187 y188 y189 y190 y191 y192 y193 y194 y195 y196 y197 y198 y199 y200 y201 y202 y203 y204 y205 y206 y207 y208 y209 y210 y211 y212 y213 y214 y215 y216 y217 y218 y219 y220 y221 y222 y223 y224 y225 y226 y227 y228 y229 y230 y231 : Value) (w' : World), Hid (Ext w w') → QQ Exit.normal { tmps := #[z0, z1, z2, z3, y4, y5, y6, y7, y8, y9, y10, y11, y12, y13, y14, y15, y16, y17, y18, y19, y20, y21, y22, y23, y24, y25, y26, y27, y28, y29, y30, y31, y32, y33, y34, y35, y36, y37, y38, y39, y40, y41, y42, y43, y44, y45, y46, y47, y48, y49, y50, y51, y52, y53, y54, y55, y56, y57, y58, y59, y60, y61, y62, y63, y64, y65, y66, y67, y68, y69, y70, y71, y72, y73, y74, y75, y76, y77, y78, y79, y80, y81, y82, y83, y84, y85, y86, y87, y88, y89, y90, y91, y92, y93, y94, y95, y96, y97, y98, y99, y100, y101, y102, y103, y104, y105, y106, y107, y108, y109, y110, y111, y112, y113, y114, y115, y116, y117, y118, y119, y120, y121, y122, y123, y124, y125, y126, y127, y128, y129, y130, y131, y132, y133, y134, y135, y136, y137, y138, y139, y140, y141, y142, y143, y144, y145, y146, y147, y148, y149, y150, y151, y152, y153, y154, y155, y156, y157, y158, y159, y160, y161, y162, y163, y164, y165, y166, y167, y168, y169, y170, y171, y172, y173, y174, y175, y176, y177, y178, y179, y180, y181, y182, y183, y184, y185, y186, y187, y188, y189, y190, y191, y192, y193, y194, y195, y196, y197, y198, y199, y200, y201, y202, y203, y204, y205, y206, y207, y208, y209, y210, y211, y212, y213, y214, y215, y216, y217, y218, y219, y220, y221, y222, y223, y224, y225, y226, y227, y228, y229, y230, y231, z232], defers := [] } w'))
    (HNU : Hid (∀ v w', Calls Try.prog 11 #[.int .i64 v] w' fun e w'' => e = .returned (.int .i64 v) ∧ w'' = w')) (HSC : Hid (∀ W, Calls Try.prog 14 #[.agg #[.int .i64 d.addr, .int .i64 d.id, .bool d.want, .int .i64 d.per, .int .i64 d.st, .int .i64 d.fails, .bool d.tried, .int .i64 d.left, .int .i64 d.bad], .bool wn, .int .i64 pr] W fun e w' => e = .returned (.tuple #[.agg #[.int .i64 sd.addr, .int .i64 sd.id, .bool sd.want, .int .i64 sd.per, .int .i64 sd.st, .int .i64 sd.fails, .bool sd.tried, .int .i64 sd.left, .int .i64 sd.bad], .int .i64 sv]) ∧ Ext W w')) (HOK : Hid (okD d = okd)) (HBD : Hid (bd = if okd = true then 0 else 1)) (HRD : Hid (∀ W, Ext w W → RdY W 0 da data)) (H400 : Hid (data.length ≤ 400)) (HNX : Hid (∀ W, Calls Try.prog 9 #[.agg #[.int .i64 d.addr, .int .i64 d.id, .bool d.want, .int .i64 d.per, .int .i64 d.st, .int .i64 d.fails, .bool d.tried, .int .i64 d.left, .int .i64 d.bad]] W fun e w' => ∃ a c, e = .returned (.tuple #[.agg #[.int .i64 x0, .int .i64 tr, .slice a tw.length c, .int .i64 tq], .bool so, .int .i64 bd]) ∧ RdY w' W.heap.size a tw ∧ Ext W w')) (HTW : Hid (tw.length ≤ 100000)) (hRR : Hid (RdY wv7 lo ta tw ∧ RdR wv7 ra Lr ∧ Lr.length ≤ 100000)) (HTC : Hid (∀ r rc W, data.length ≤ rc → RdY W 0 r data → Calls Try.prog 19 #[.agg #[.int .i64 d.addr, .int .i64 d.id, .bool d.want, .int .i64 d.per, .int .i64 d.st, .int .i64 d.fails, .bool d.tried, .int .i64 d.left, .int .i64 d.bad], .agg #[.int .i64 ast, .slice r data.length rc]] W fun e w' => ∃ ra rb, e = .returned (.tuple #[.agg #[.int .i64 md.addr, .int .i64 md.id, .bool md.want, .int .i64 md.per, .int .i64 md.st, .int .i64 md.fails, .bool md.tried, .int .i64 md.left, .int .i64 md.bad], .slice ra Lr.length rb, .bool fl, .int .i64 tk]) ∧ RdR w' ra Lr ∧ Ext W w')) (Fp : Hid (HV wv7 np [.int .i64 d.addr, .int .i64 d.id, .bool d.want, .int .i64 d.per, .int .i64 d.st, .int .i64 d.fails, .bool d.tried, .int .i64 d.left, .int .i64 d.bad, .bool wn, .int .i64 pr, .int .i64 ast, .slice da data.length dc])) (Fa : Hid (HV wv7 na [.int .i64 sd.addr, .int .i64 sd.id, .bool sd.want, .int .i64 sd.per, .int .i64 sd.st, .int .i64 sd.fails, .bool sd.tried, .int .i64 sd.left, .int .i64 sd.bad])) (Fc : Hid (HV wv7 nc [.int .i64 md.addr, .int .i64 md.id, .bool md.want, .int .i64 md.per, .int .i64 md.st, .int .i64 md.fails, .bool md.tried, .int .i64 md.left, .int .i64 md.bad])) (Ft : Hid (HV wv7 nt [.int .i64 x0, .int .i64 tr, .slice ta tw.length tc, .int .i64 tq])) (FX : Hid (Ext w wv7)) :
    Code.wp Try.prog cd QQ { tmps := #[z0, z1, z2, z3, .pointer (some ⟨np, 0, none⟩), .int .i64 bd, .int .i64 sv, .int .i64 bd, .int .i64 tk, .pointer (some ⟨na, 0, none⟩), .pointer (some ⟨nc, 0, none⟩), .pointer (some ⟨nt, 0, none⟩), .slice ra Lr.length rb, .bool so, .bool fl, z15, z16, z17, z18, z19, z20, z21, z22, z23, z24, z25, z26, z27, z28, z29, z30, z31, z32, z33, z34, z35, z36, z37, z38, z39, z40, z41, z42, z43, z44, z45, z46, z47, z48, z49, z50, z51, z52, z53, z54, z55, z56, z57, z58, z59, z60, z61, z62, z63, z64, z65, z66, z67, z68, z69, z70, z71, z72, z73, z74, z75, z76, z77, z78, z79, z80, z81, z82, z83, z84, z85, z86, z87, z88, z89, z90, z91, z92, z93, z94, z95, z96, z97, z98, z99, z100, z101, z102, z103, z104, z105, z106, z107, z108, z109, z110, z111, z112, z113, z114, z115, z116, z117, z118, z119, z120, z121, z122, z123, z124, z125, z126, z127, z128, z129, z130, z131, z132, z133, z134, z135, z136, z137, z138, z139, z140, z141, z142, z143, z144, z145, z146, z147, z148, z149, z150, z151, z152, z153, z154, z155, z156, z157, z158, z159, z160, z161, z162, z163, z164, z165, z166, z167, z168, z169, z170, z171, z172, z173, z174, z175, z176, z177, z178, z179, z180, z181, z182, z183, z184, z185, z186, z187, z188, z189, z190, z191, z192, z193, z194, z195, z196, z197, z198, z199, z200, z201, z202, z203, z204, z205, z206, z207, z208, z209, z210, z211, z212, z213, z214, z215, z216, z217, z218, z219, z220, z221, z222, z223, z224, z225, z226, z227, z228, z229, z230, z231, z232], defers := [] } wv7 := by
  subst hcd
  simp only [Try.f5] at hbd
  injection hbd with hbd
  subst hbd
  simp only [rgt, lft, inn1]
  have RT : Hid (∀ W, Ext wv7 W → RdY W lo ta tw) := fun W x => hRR.out.1.ext x
  have RL : Hid (∀ W, Ext wv7 W → RdR W ra Lr) := fun W x => hRR.out.2.1.ext x
  have HTWL : Hid (Lr.length ≤ 100000) := hRR.out.2.2
  have XV : Hid (Ext wv7 wv7) := Ext.refl wv7
  clear hRR
  have qp0 : wv7.cell? ⟨np, 0, none⟩ = some (.int .i64 d.addr) := Fp.out.c 0 rfl
  have qp1 : wv7.cell? ⟨np, 1, none⟩ = some (.int .i64 d.id) := Fp.out.c 1 rfl
  have qp2 : wv7.cell? ⟨np, 2, none⟩ = some (.bool d.want) := Fp.out.c 2 rfl
  have qp3 : wv7.cell? ⟨np, 3, none⟩ = some (.int .i64 d.per) := Fp.out.c 3 rfl
  have qp4 : wv7.cell? ⟨np, 4, none⟩ = some (.int .i64 d.st) := Fp.out.c 4 rfl
  have qp5 : wv7.cell? ⟨np, 5, none⟩ = some (.int .i64 d.fails) := Fp.out.c 5 rfl
  have qp6 : wv7.cell? ⟨np, 6, none⟩ = some (.bool d.tried) := Fp.out.c 6 rfl
  have qp7 : wv7.cell? ⟨np, 7, none⟩ = some (.int .i64 d.left) := Fp.out.c 7 rfl
  have qp8 : wv7.cell? ⟨np, 8, none⟩ = some (.int .i64 d.bad) := Fp.out.c 8 rfl
  have qp9 : wv7.cell? ⟨np, 9, none⟩ = some (.bool wn) := Fp.out.c 9 rfl
  have qp10 : wv7.cell? ⟨np, 10, none⟩ = some (.int .i64 pr) := Fp.out.c 10 rfl
  go_upto_region 28 with (first | (go_at_call 14; refine (HSC.out _).mono ?_; rintro e wr1 ⟨rfl, xr1⟩; (try dsimp only)))
  have XV : Hid (Ext wv7 wr1) := XV.out.trans xr1
  have Fp : Hid (HV wr1 np [.int .i64 d.addr, .int .i64 d.id, .bool d.want, .int .i64 d.per, .int .i64 d.st, .int .i64 d.fails, .bool d.tried, .int .i64 d.left, .int .i64 d.bad, .bool wn, .int .i64 pr, .int .i64 ast, .slice da data.length dc]) := Fp.out.ext xr1
  have Fa : Hid (HV wr1 na [.int .i64 sd.addr, .int .i64 sd.id, .bool sd.want, .int .i64 sd.per, .int .i64 sd.st, .int .i64 sd.fails, .bool sd.tried, .int .i64 sd.left, .int .i64 sd.bad]) := Fa.out.ext xr1
  have Fc : Hid (HV wr1 nc [.int .i64 md.addr, .int .i64 md.id, .bool md.want, .int .i64 md.per, .int .i64 md.st, .int .i64 md.fails, .bool md.tried, .int .i64 md.left, .int .i64 md.bad]) := Fc.out.ext xr1
  have Ft : Hid (HV wr1 nt [.int .i64 x0, .int .i64 tr, .slice ta tw.length tc, .int .i64 tq]) := Ft.out.ext xr1
  have FX : Hid (Ext w wr1) := FX.out.trans xr1
  clear qp0 qp1 qp2 qp3 qp4 qp5 qp6 qp7 qp8 qp9 qp10 xr1 HSC
  have XV : Hid (Ext wv7 (wr1.alloc (.cells #[.int .i64 sd.addr, .int .i64 sd.id, .bool sd.want, .int .i64 sd.per, .int .i64 sd.st, .int .i64 sd.fails, .bool sd.tried, .int .i64 sd.left, .int .i64 sd.bad] 24))) := XV.out.alloc _
  have ltpx : np < wr1.heap.size := Fp.out.1
  have ltax : na < wr1.heap.size := Fa.out.1
  have ltcx : nc < wr1.heap.size := Fc.out.1
  have lttx : nt < wr1.heap.size := Ft.out.1
  have Lx : Hid (w.heap.size ≤ wr1.heap.size) := FX.out.size
  have Fp : Hid (HV (wr1.alloc (.cells #[.int .i64 sd.addr, .int .i64 sd.id, .bool sd.want, .int .i64 sd.per, .int .i64 sd.st, .int .i64 sd.fails, .bool sd.tried, .int .i64 sd.left, .int .i64 sd.bad] 24)) np [.int .i64 d.addr, .int .i64 d.id, .bool d.want, .int .i64 d.per, .int .i64 d.st, .int .i64 d.fails, .bool d.tried, .int .i64 d.left, .int .i64 d.bad, .bool wn, .int .i64 pr, .int .i64 ast, .slice da data.length dc]) := Fp.out.alloc _
  have Fa : Hid (HV (wr1.alloc (.cells #[.int .i64 sd.addr, .int .i64 sd.id, .bool sd.want, .int .i64 sd.per, .int .i64 sd.st, .int .i64 sd.fails, .bool sd.tried, .int .i64 sd.left, .int .i64 sd.bad] 24)) na [.int .i64 sd.addr, .int .i64 sd.id, .bool sd.want, .int .i64 sd.per, .int .i64 sd.st, .int .i64 sd.fails, .bool sd.tried, .int .i64 sd.left, .int .i64 sd.bad]) := Fa.out.alloc _
  have Fc : Hid (HV (wr1.alloc (.cells #[.int .i64 sd.addr, .int .i64 sd.id, .bool sd.want, .int .i64 sd.per, .int .i64 sd.st, .int .i64 sd.fails, .bool sd.tried, .int .i64 sd.left, .int .i64 sd.bad] 24)) nc [.int .i64 md.addr, .int .i64 md.id, .bool md.want, .int .i64 md.per, .int .i64 md.st, .int .i64 md.fails, .bool md.tried, .int .i64 md.left, .int .i64 md.bad]) := Fc.out.alloc _
  have Ft : Hid (HV (wr1.alloc (.cells #[.int .i64 sd.addr, .int .i64 sd.id, .bool sd.want, .int .i64 sd.per, .int .i64 sd.st, .int .i64 sd.fails, .bool sd.tried, .int .i64 sd.left, .int .i64 sd.bad] 24)) nt [.int .i64 x0, .int .i64 tr, .slice ta tw.length tc, .int .i64 tq]) := Ft.out.alloc _
  have Fx : Hid (HV (wr1.alloc (.cells #[.int .i64 sd.addr, .int .i64 sd.id, .bool sd.want, .int .i64 sd.per, .int .i64 sd.st, .int .i64 sd.fails, .bool sd.tried, .int .i64 sd.left, .int .i64 sd.bad] 24)) wr1.heap.size [.int .i64 sd.addr, .int .i64 sd.id, .bool sd.want, .int .i64 sd.per, .int .i64 sd.st, .int .i64 sd.fails, .bool sd.tried, .int .i64 sd.left, .int .i64 sd.bad]) := hv_at rfl
  have FX : Hid (Ext w (wr1.alloc (.cells #[.int .i64 sd.addr, .int .i64 sd.id, .bool sd.want, .int .i64 sd.per, .int .i64 sd.st, .int .i64 sd.fails, .bool sd.tried, .int .i64 sd.left, .int .i64 sd.bad] 24))) := FX.out.alloc _
  generalize (wr1.alloc (.cells #[.int .i64 sd.addr, .int .i64 sd.id, .bool sd.want, .int .i64 sd.per, .int .i64 sd.st, .int .i64 sd.fails, .bool sd.tried, .int .i64 sd.left, .int .i64 sd.bad] 24)) = wx8 at *
  generalize wr1.heap.size = nx at *
  have qp0 : wx8.cell? ⟨np, 0, none⟩ = some (.int .i64 d.addr) := Fp.out.c 0 rfl
  have qp1 : wx8.cell? ⟨np, 1, none⟩ = some (.int .i64 d.id) := Fp.out.c 1 rfl
  have qp2 : wx8.cell? ⟨np, 2, none⟩ = some (.bool d.want) := Fp.out.c 2 rfl
  have qp3 : wx8.cell? ⟨np, 3, none⟩ = some (.int .i64 d.per) := Fp.out.c 3 rfl
  have qp4 : wx8.cell? ⟨np, 4, none⟩ = some (.int .i64 d.st) := Fp.out.c 4 rfl
  have qp5 : wx8.cell? ⟨np, 5, none⟩ = some (.int .i64 d.fails) := Fp.out.c 5 rfl
  have qp6 : wx8.cell? ⟨np, 6, none⟩ = some (.bool d.tried) := Fp.out.c 6 rfl
  have qp7 : wx8.cell? ⟨np, 7, none⟩ = some (.int .i64 d.left) := Fp.out.c 7 rfl
  have qp8 : wx8.cell? ⟨np, 8, none⟩ = some (.int .i64 d.bad) := Fp.out.c 8 rfl
  go_upto_region 29 with (first | (go_at_call 9; refine (HNX.out _).mono ?_; rintro e wr2 ⟨ya, yc, rfl, ry2, xr2⟩; (try dsimp only)))
  have RYY0 : Hid (RdY wr2 0 ya tw) := ry2.base (Nat.zero_le _)
  have XV : Hid (Ext wv7 wr2) := XV.out.trans xr2
  have Fp : Hid (HV wr2 np [.int .i64 d.addr, .int .i64 d.id, .bool d.want, .int .i64 d.per, .int .i64 d.st, .int .i64 d.fails, .bool d.tried, .int .i64 d.left, .int .i64 d.bad, .bool wn, .int .i64 pr, .int .i64 ast, .slice da data.length dc]) := Fp.out.ext xr2
  have Fa : Hid (HV wr2 na [.int .i64 sd.addr, .int .i64 sd.id, .bool sd.want, .int .i64 sd.per, .int .i64 sd.st, .int .i64 sd.fails, .bool sd.tried, .int .i64 sd.left, .int .i64 sd.bad]) := Fa.out.ext xr2
  have Fc : Hid (HV wr2 nc [.int .i64 md.addr, .int .i64 md.id, .bool md.want, .int .i64 md.per, .int .i64 md.st, .int .i64 md.fails, .bool md.tried, .int .i64 md.left, .int .i64 md.bad]) := Fc.out.ext xr2
  have Ft : Hid (HV wr2 nt [.int .i64 x0, .int .i64 tr, .slice ta tw.length tc, .int .i64 tq]) := Ft.out.ext xr2
  have Fx : Hid (HV wr2 nx [.int .i64 sd.addr, .int .i64 sd.id, .bool sd.want, .int .i64 sd.per, .int .i64 sd.st, .int .i64 sd.fails, .bool sd.tried, .int .i64 sd.left, .int .i64 sd.bad]) := Fx.out.ext xr2
  have FX : Hid (Ext w wr2) := FX.out.trans xr2
  clear qp0 qp1 qp2 qp3 qp4 qp5 qp6 qp7 qp8 xr2 HNX ry2
  have RYY : Hid (∀ W, Ext wr2 W → RdY W 0 ya tw) := fun W x => RYY0.out.ext x
  clear RYY0
  have RT : Hid (∀ W, Ext wr2 W → RdY W lo ta tw) := fun W x => RT.out W (XV.out.trans x)
  have RL : Hid (∀ W, Ext wr2 W → RdR W ra Lr) := fun W x => RL.out W (XV.out.trans x)
  have RYY : Hid (∀ W, Ext (wr2.alloc (.cells #[.int .i64 x0, .int .i64 tr, .slice ya tw.length yc, .int .i64 tq] 31)) W → RdY W 0 ya tw) := fun W x => RYY.out W (Ext.trans ((Ext.refl wr2).alloc _) x)
  have RT : Hid (∀ W, Ext (wr2.alloc (.cells #[.int .i64 x0, .int .i64 tr, .slice ya tw.length yc, .int .i64 tq] 31)) W → RdY W lo ta tw) := fun W x => RT.out W (Ext.trans ((Ext.refl wr2).alloc _) x)
  have RL : Hid (∀ W, Ext (wr2.alloc (.cells #[.int .i64 x0, .int .i64 tr, .slice ya tw.length yc, .int .i64 tq] 31)) W → RdR W ra Lr) := fun W x => RL.out W (Ext.trans ((Ext.refl wr2).alloc _) x)
  have XV : Hid (Ext wv7 (wr2.alloc (.cells #[.int .i64 x0, .int .i64 tr, .slice ya tw.length yc, .int .i64 tq] 31))) := XV.out.alloc _
  have ltpy : np < wr2.heap.size := Fp.out.1
  have ltay : na < wr2.heap.size := Fa.out.1
  have ltcy : nc < wr2.heap.size := Fc.out.1
  have ltty : nt < wr2.heap.size := Ft.out.1
  have ltxy : nx < wr2.heap.size := Fx.out.1
  have Ly : Hid (w.heap.size ≤ wr2.heap.size) := FX.out.size
  have Fp : Hid (HV (wr2.alloc (.cells #[.int .i64 x0, .int .i64 tr, .slice ya tw.length yc, .int .i64 tq] 31)) np [.int .i64 d.addr, .int .i64 d.id, .bool d.want, .int .i64 d.per, .int .i64 d.st, .int .i64 d.fails, .bool d.tried, .int .i64 d.left, .int .i64 d.bad, .bool wn, .int .i64 pr, .int .i64 ast, .slice da data.length dc]) := Fp.out.alloc _
  have Fa : Hid (HV (wr2.alloc (.cells #[.int .i64 x0, .int .i64 tr, .slice ya tw.length yc, .int .i64 tq] 31)) na [.int .i64 sd.addr, .int .i64 sd.id, .bool sd.want, .int .i64 sd.per, .int .i64 sd.st, .int .i64 sd.fails, .bool sd.tried, .int .i64 sd.left, .int .i64 sd.bad]) := Fa.out.alloc _
  have Fc : Hid (HV (wr2.alloc (.cells #[.int .i64 x0, .int .i64 tr, .slice ya tw.length yc, .int .i64 tq] 31)) nc [.int .i64 md.addr, .int .i64 md.id, .bool md.want, .int .i64 md.per, .int .i64 md.st, .int .i64 md.fails, .bool md.tried, .int .i64 md.left, .int .i64 md.bad]) := Fc.out.alloc _
  have Ft : Hid (HV (wr2.alloc (.cells #[.int .i64 x0, .int .i64 tr, .slice ya tw.length yc, .int .i64 tq] 31)) nt [.int .i64 x0, .int .i64 tr, .slice ta tw.length tc, .int .i64 tq]) := Ft.out.alloc _
  have Fx : Hid (HV (wr2.alloc (.cells #[.int .i64 x0, .int .i64 tr, .slice ya tw.length yc, .int .i64 tq] 31)) nx [.int .i64 sd.addr, .int .i64 sd.id, .bool sd.want, .int .i64 sd.per, .int .i64 sd.st, .int .i64 sd.fails, .bool sd.tried, .int .i64 sd.left, .int .i64 sd.bad]) := Fx.out.alloc _
  have Fy : Hid (HV (wr2.alloc (.cells #[.int .i64 x0, .int .i64 tr, .slice ya tw.length yc, .int .i64 tq] 31)) wr2.heap.size [.int .i64 x0, .int .i64 tr, .slice ya tw.length yc, .int .i64 tq]) := hv_at rfl
  have FX : Hid (Ext w (wr2.alloc (.cells #[.int .i64 x0, .int .i64 tr, .slice ya tw.length yc, .int .i64 tq] 31))) := FX.out.alloc _
  generalize (wr2.alloc (.cells #[.int .i64 x0, .int .i64 tr, .slice ya tw.length yc, .int .i64 tq] 31)) = wx9 at *
  generalize wr2.heap.size = ny at *
  have HCA : Hid (∀ W, Ext w W → Calls Try.prog 18 #[.agg #[.int .i64 ast, .slice da data.length dc]] W fun e w' => ∃ r rc, e = .returned (.agg #[.int .i64 ast, .slice r data.length rc]) ∧ data.length ≤ rc ∧ RdY w' W.heap.size r data ∧ Ext W w') := fun W x => copyanswer_any W ast da data dc (HRD.out W x) (by have := H400.out; omega)
  have qp11 : wx9.cell? ⟨np, 11, none⟩ = some (.int .i64 ast) := Fp.out.c 11 rfl
  have qp12 : wx9.cell? ⟨np, 12, none⟩ = some (.slice da data.length dc) := Fp.out.c 12 rfl
  go_upto_region 30 with (first | (go_at_call 18; refine (HCA.out _ FX.out).mono ?_; rintro e wr3 ⟨br, bc, rfl, hbc, rb3, xr3⟩; (try dsimp only)))
  have HBC : Hid (data.length ≤ bc) := hbc
  have RB : Hid (∀ W, Ext wr3 W → RdY W 0 br data) := fun W x => (rb3.base (Nat.zero_le _)).ext x
  have RYY : Hid (∀ W, Ext wr3 W → RdY W 0 ya tw) := fun W y => RYY.out W (Ext.trans xr3 y)
  have RT : Hid (∀ W, Ext wr3 W → RdY W lo ta tw) := fun W y => RT.out W (Ext.trans xr3 y)
  have RL : Hid (∀ W, Ext wr3 W → RdR W ra Lr) := fun W y => RL.out W (Ext.trans xr3 y)
  have XV : Hid (Ext wv7 wr3) := XV.out.trans xr3
  have Fp : Hid (HV wr3 np [.int .i64 d.addr, .int .i64 d.id, .bool d.want, .int .i64 d.per, .int .i64 d.st, .int .i64 d.fails, .bool d.tried, .int .i64 d.left, .int .i64 d.bad, .bool wn, .int .i64 pr, .int .i64 ast, .slice da data.length dc]) := Fp.out.ext xr3
  have Fa : Hid (HV wr3 na [.int .i64 sd.addr, .int .i64 sd.id, .bool sd.want, .int .i64 sd.per, .int .i64 sd.st, .int .i64 sd.fails, .bool sd.tried, .int .i64 sd.left, .int .i64 sd.bad]) := Fa.out.ext xr3
  have Fc : Hid (HV wr3 nc [.int .i64 md.addr, .int .i64 md.id, .bool md.want, .int .i64 md.per, .int .i64 md.st, .int .i64 md.fails, .bool md.tried, .int .i64 md.left, .int .i64 md.bad]) := Fc.out.ext xr3
  have Ft : Hid (HV wr3 nt [.int .i64 x0, .int .i64 tr, .slice ta tw.length tc, .int .i64 tq]) := Ft.out.ext xr3
  have Fx : Hid (HV wr3 nx [.int .i64 sd.addr, .int .i64 sd.id, .bool sd.want, .int .i64 sd.per, .int .i64 sd.st, .int .i64 sd.fails, .bool sd.tried, .int .i64 sd.left, .int .i64 sd.bad]) := Fx.out.ext xr3
  have Fy : Hid (HV wr3 ny [.int .i64 x0, .int .i64 tr, .slice ya tw.length yc, .int .i64 tq]) := Fy.out.ext xr3
  have FX : Hid (Ext w wr3) := FX.out.trans xr3
  clear qp11 qp12 xr3 HCA hbc rb3
  have RYY : Hid (∀ W, Ext (wr3.alloc (.cells #[.int .i64 ast, .slice br data.length bc] 27)) W → RdY W 0 ya tw) := fun W x => RYY.out W (Ext.trans ((Ext.refl wr3).alloc _) x)
  have RT : Hid (∀ W, Ext (wr3.alloc (.cells #[.int .i64 ast, .slice br data.length bc] 27)) W → RdY W lo ta tw) := fun W x => RT.out W (Ext.trans ((Ext.refl wr3).alloc _) x)
  have RL : Hid (∀ W, Ext (wr3.alloc (.cells #[.int .i64 ast, .slice br data.length bc] 27)) W → RdR W ra Lr) := fun W x => RL.out W (Ext.trans ((Ext.refl wr3).alloc _) x)
  have RB : Hid (∀ W, Ext (wr3.alloc (.cells #[.int .i64 ast, .slice br data.length bc] 27)) W → RdY W 0 br data) := fun W x => RB.out W (Ext.trans ((Ext.refl wr3).alloc _) x)
  have XV : Hid (Ext wv7 (wr3.alloc (.cells #[.int .i64 ast, .slice br data.length bc] 27))) := XV.out.alloc _
  have ltpb : np < wr3.heap.size := Fp.out.1
  have ltab : na < wr3.heap.size := Fa.out.1
  have ltcb : nc < wr3.heap.size := Fc.out.1
  have lttb : nt < wr3.heap.size := Ft.out.1
  have ltxb : nx < wr3.heap.size := Fx.out.1
  have ltyb : ny < wr3.heap.size := Fy.out.1
  have Lb : Hid (w.heap.size ≤ wr3.heap.size) := FX.out.size
  have Fp : Hid (HV (wr3.alloc (.cells #[.int .i64 ast, .slice br data.length bc] 27)) np [.int .i64 d.addr, .int .i64 d.id, .bool d.want, .int .i64 d.per, .int .i64 d.st, .int .i64 d.fails, .bool d.tried, .int .i64 d.left, .int .i64 d.bad, .bool wn, .int .i64 pr, .int .i64 ast, .slice da data.length dc]) := Fp.out.alloc _
  have Fa : Hid (HV (wr3.alloc (.cells #[.int .i64 ast, .slice br data.length bc] 27)) na [.int .i64 sd.addr, .int .i64 sd.id, .bool sd.want, .int .i64 sd.per, .int .i64 sd.st, .int .i64 sd.fails, .bool sd.tried, .int .i64 sd.left, .int .i64 sd.bad]) := Fa.out.alloc _
  have Fc : Hid (HV (wr3.alloc (.cells #[.int .i64 ast, .slice br data.length bc] 27)) nc [.int .i64 md.addr, .int .i64 md.id, .bool md.want, .int .i64 md.per, .int .i64 md.st, .int .i64 md.fails, .bool md.tried, .int .i64 md.left, .int .i64 md.bad]) := Fc.out.alloc _
  have Ft : Hid (HV (wr3.alloc (.cells #[.int .i64 ast, .slice br data.length bc] 27)) nt [.int .i64 x0, .int .i64 tr, .slice ta tw.length tc, .int .i64 tq]) := Ft.out.alloc _
  have Fx : Hid (HV (wr3.alloc (.cells #[.int .i64 ast, .slice br data.length bc] 27)) nx [.int .i64 sd.addr, .int .i64 sd.id, .bool sd.want, .int .i64 sd.per, .int .i64 sd.st, .int .i64 sd.fails, .bool sd.tried, .int .i64 sd.left, .int .i64 sd.bad]) := Fx.out.alloc _
  have Fy : Hid (HV (wr3.alloc (.cells #[.int .i64 ast, .slice br data.length bc] 27)) ny [.int .i64 x0, .int .i64 tr, .slice ya tw.length yc, .int .i64 tq]) := Fy.out.alloc _
  have Fb : Hid (HV (wr3.alloc (.cells #[.int .i64 ast, .slice br data.length bc] 27)) wr3.heap.size [.int .i64 ast, .slice br data.length bc]) := hv_at rfl
  have FX : Hid (Ext w (wr3.alloc (.cells #[.int .i64 ast, .slice br data.length bc] 27))) := FX.out.alloc _
  generalize (wr3.alloc (.cells #[.int .i64 ast, .slice br data.length bc] 27)) = wx10 at *
  generalize wr3.heap.size = nb at *
  have qp0 : wx10.cell? ⟨np, 0, none⟩ = some (.int .i64 d.addr) := Fp.out.c 0 rfl
  have qp1 : wx10.cell? ⟨np, 1, none⟩ = some (.int .i64 d.id) := Fp.out.c 1 rfl
  have qp2 : wx10.cell? ⟨np, 2, none⟩ = some (.bool d.want) := Fp.out.c 2 rfl
  have qp3 : wx10.cell? ⟨np, 3, none⟩ = some (.int .i64 d.per) := Fp.out.c 3 rfl
  have qp4 : wx10.cell? ⟨np, 4, none⟩ = some (.int .i64 d.st) := Fp.out.c 4 rfl
  have qp5 : wx10.cell? ⟨np, 5, none⟩ = some (.int .i64 d.fails) := Fp.out.c 5 rfl
  have qp6 : wx10.cell? ⟨np, 6, none⟩ = some (.bool d.tried) := Fp.out.c 6 rfl
  have qp7 : wx10.cell? ⟨np, 7, none⟩ = some (.int .i64 d.left) := Fp.out.c 7 rfl
  have qp8 : wx10.cell? ⟨np, 8, none⟩ = some (.int .i64 d.bad) := Fp.out.c 8 rfl
  have qb0 : wx10.cell? ⟨nb, 0, none⟩ = some (.int .i64 ast) := Fb.out.c 0 rfl
  have qb1 : wx10.cell? ⟨nb, 1, none⟩ = some (.slice br data.length bc) := Fb.out.c 1 rfl
  have HTB := HTC.out br bc wx10 HBC.out (RB.out wx10 (Ext.refl _))
  go_upto_region 31 with (first | (go_at_call 19; refine HTB.mono ?_; rintro e wr4 ⟨va, vc, rfl, rv4, xr4⟩; (try dsimp only)))
  have RV : Hid (∀ W, Ext wr4 W → RdR W va Lr) := fun W x => rv4.ext x
  have RYY : Hid (∀ W, Ext wr4 W → RdY W 0 ya tw) := fun W y => RYY.out W (Ext.trans xr4 y)
  have RT : Hid (∀ W, Ext wr4 W → RdY W lo ta tw) := fun W y => RT.out W (Ext.trans xr4 y)
  have RL : Hid (∀ W, Ext wr4 W → RdR W ra Lr) := fun W y => RL.out W (Ext.trans xr4 y)
  have RB : Hid (∀ W, Ext wr4 W → RdY W 0 br data) := fun W y => RB.out W (Ext.trans xr4 y)
  have XV : Hid (Ext wv7 wr4) := XV.out.trans xr4
  have Fp : Hid (HV wr4 np [.int .i64 d.addr, .int .i64 d.id, .bool d.want, .int .i64 d.per, .int .i64 d.st, .int .i64 d.fails, .bool d.tried, .int .i64 d.left, .int .i64 d.bad, .bool wn, .int .i64 pr, .int .i64 ast, .slice da data.length dc]) := Fp.out.ext xr4
  have Fa : Hid (HV wr4 na [.int .i64 sd.addr, .int .i64 sd.id, .bool sd.want, .int .i64 sd.per, .int .i64 sd.st, .int .i64 sd.fails, .bool sd.tried, .int .i64 sd.left, .int .i64 sd.bad]) := Fa.out.ext xr4
  have Fc : Hid (HV wr4 nc [.int .i64 md.addr, .int .i64 md.id, .bool md.want, .int .i64 md.per, .int .i64 md.st, .int .i64 md.fails, .bool md.tried, .int .i64 md.left, .int .i64 md.bad]) := Fc.out.ext xr4
  have Ft : Hid (HV wr4 nt [.int .i64 x0, .int .i64 tr, .slice ta tw.length tc, .int .i64 tq]) := Ft.out.ext xr4
  have Fx : Hid (HV wr4 nx [.int .i64 sd.addr, .int .i64 sd.id, .bool sd.want, .int .i64 sd.per, .int .i64 sd.st, .int .i64 sd.fails, .bool sd.tried, .int .i64 sd.left, .int .i64 sd.bad]) := Fx.out.ext xr4
  have Fy : Hid (HV wr4 ny [.int .i64 x0, .int .i64 tr, .slice ya tw.length yc, .int .i64 tq]) := Fy.out.ext xr4
  have Fb : Hid (HV wr4 nb [.int .i64 ast, .slice br data.length bc]) := Fb.out.ext xr4
  have FX : Hid (Ext w wr4) := FX.out.trans xr4
  clear qp0 qp1 qp2 qp3 qp4 qp5 qp6 qp7 qp8 qb0 qb1 xr4 HTC HTB rv4
  have RYY : Hid (∀ W, Ext (wr4.alloc (.cells #[.int .i64 md.addr, .int .i64 md.id, .bool md.want, .int .i64 md.per, .int .i64 md.st, .int .i64 md.fails, .bool md.tried, .int .i64 md.left, .int .i64 md.bad] 24)) W → RdY W 0 ya tw) := fun W x => RYY.out W (Ext.trans ((Ext.refl wr4).alloc _) x)
  have RT : Hid (∀ W, Ext (wr4.alloc (.cells #[.int .i64 md.addr, .int .i64 md.id, .bool md.want, .int .i64 md.per, .int .i64 md.st, .int .i64 md.fails, .bool md.tried, .int .i64 md.left, .int .i64 md.bad] 24)) W → RdY W lo ta tw) := fun W x => RT.out W (Ext.trans ((Ext.refl wr4).alloc _) x)
  have RL : Hid (∀ W, Ext (wr4.alloc (.cells #[.int .i64 md.addr, .int .i64 md.id, .bool md.want, .int .i64 md.per, .int .i64 md.st, .int .i64 md.fails, .bool md.tried, .int .i64 md.left, .int .i64 md.bad] 24)) W → RdR W ra Lr) := fun W x => RL.out W (Ext.trans ((Ext.refl wr4).alloc _) x)
  have RB : Hid (∀ W, Ext (wr4.alloc (.cells #[.int .i64 md.addr, .int .i64 md.id, .bool md.want, .int .i64 md.per, .int .i64 md.st, .int .i64 md.fails, .bool md.tried, .int .i64 md.left, .int .i64 md.bad] 24)) W → RdY W 0 br data) := fun W x => RB.out W (Ext.trans ((Ext.refl wr4).alloc _) x)
  have RV : Hid (∀ W, Ext (wr4.alloc (.cells #[.int .i64 md.addr, .int .i64 md.id, .bool md.want, .int .i64 md.per, .int .i64 md.st, .int .i64 md.fails, .bool md.tried, .int .i64 md.left, .int .i64 md.bad] 24)) W → RdR W va Lr) := fun W x => RV.out W (Ext.trans ((Ext.refl wr4).alloc _) x)
  have XV : Hid (Ext wv7 (wr4.alloc (.cells #[.int .i64 md.addr, .int .i64 md.id, .bool md.want, .int .i64 md.per, .int .i64 md.st, .int .i64 md.fails, .bool md.tried, .int .i64 md.left, .int .i64 md.bad] 24))) := XV.out.alloc _
  have ltpv : np < wr4.heap.size := Fp.out.1
  have ltav : na < wr4.heap.size := Fa.out.1
  have ltcv : nc < wr4.heap.size := Fc.out.1
  have lttv : nt < wr4.heap.size := Ft.out.1
  have ltxv : nx < wr4.heap.size := Fx.out.1
  have ltyv : ny < wr4.heap.size := Fy.out.1
  have ltbv : nb < wr4.heap.size := Fb.out.1
  have Lv : Hid (w.heap.size ≤ wr4.heap.size) := FX.out.size
  have Fp : Hid (HV (wr4.alloc (.cells #[.int .i64 md.addr, .int .i64 md.id, .bool md.want, .int .i64 md.per, .int .i64 md.st, .int .i64 md.fails, .bool md.tried, .int .i64 md.left, .int .i64 md.bad] 24)) np [.int .i64 d.addr, .int .i64 d.id, .bool d.want, .int .i64 d.per, .int .i64 d.st, .int .i64 d.fails, .bool d.tried, .int .i64 d.left, .int .i64 d.bad, .bool wn, .int .i64 pr, .int .i64 ast, .slice da data.length dc]) := Fp.out.alloc _
  have Fa : Hid (HV (wr4.alloc (.cells #[.int .i64 md.addr, .int .i64 md.id, .bool md.want, .int .i64 md.per, .int .i64 md.st, .int .i64 md.fails, .bool md.tried, .int .i64 md.left, .int .i64 md.bad] 24)) na [.int .i64 sd.addr, .int .i64 sd.id, .bool sd.want, .int .i64 sd.per, .int .i64 sd.st, .int .i64 sd.fails, .bool sd.tried, .int .i64 sd.left, .int .i64 sd.bad]) := Fa.out.alloc _
  have Fc : Hid (HV (wr4.alloc (.cells #[.int .i64 md.addr, .int .i64 md.id, .bool md.want, .int .i64 md.per, .int .i64 md.st, .int .i64 md.fails, .bool md.tried, .int .i64 md.left, .int .i64 md.bad] 24)) nc [.int .i64 md.addr, .int .i64 md.id, .bool md.want, .int .i64 md.per, .int .i64 md.st, .int .i64 md.fails, .bool md.tried, .int .i64 md.left, .int .i64 md.bad]) := Fc.out.alloc _
  have Ft : Hid (HV (wr4.alloc (.cells #[.int .i64 md.addr, .int .i64 md.id, .bool md.want, .int .i64 md.per, .int .i64 md.st, .int .i64 md.fails, .bool md.tried, .int .i64 md.left, .int .i64 md.bad] 24)) nt [.int .i64 x0, .int .i64 tr, .slice ta tw.length tc, .int .i64 tq]) := Ft.out.alloc _
  have Fx : Hid (HV (wr4.alloc (.cells #[.int .i64 md.addr, .int .i64 md.id, .bool md.want, .int .i64 md.per, .int .i64 md.st, .int .i64 md.fails, .bool md.tried, .int .i64 md.left, .int .i64 md.bad] 24)) nx [.int .i64 sd.addr, .int .i64 sd.id, .bool sd.want, .int .i64 sd.per, .int .i64 sd.st, .int .i64 sd.fails, .bool sd.tried, .int .i64 sd.left, .int .i64 sd.bad]) := Fx.out.alloc _
  have Fy : Hid (HV (wr4.alloc (.cells #[.int .i64 md.addr, .int .i64 md.id, .bool md.want, .int .i64 md.per, .int .i64 md.st, .int .i64 md.fails, .bool md.tried, .int .i64 md.left, .int .i64 md.bad] 24)) ny [.int .i64 x0, .int .i64 tr, .slice ya tw.length yc, .int .i64 tq]) := Fy.out.alloc _
  have Fb : Hid (HV (wr4.alloc (.cells #[.int .i64 md.addr, .int .i64 md.id, .bool md.want, .int .i64 md.per, .int .i64 md.st, .int .i64 md.fails, .bool md.tried, .int .i64 md.left, .int .i64 md.bad] 24)) nb [.int .i64 ast, .slice br data.length bc]) := Fb.out.alloc _
  have Fv : Hid (HV (wr4.alloc (.cells #[.int .i64 md.addr, .int .i64 md.id, .bool md.want, .int .i64 md.per, .int .i64 md.st, .int .i64 md.fails, .bool md.tried, .int .i64 md.left, .int .i64 md.bad] 24)) wr4.heap.size [.int .i64 md.addr, .int .i64 md.id, .bool md.want, .int .i64 md.per, .int .i64 md.st, .int .i64 md.fails, .bool md.tried, .int .i64 md.left, .int .i64 md.bad]) := hv_at rfl
  have FX : Hid (Ext w (wr4.alloc (.cells #[.int .i64 md.addr, .int .i64 md.id, .bool md.want, .int .i64 md.per, .int .i64 md.st, .int .i64 md.fails, .bool md.tried, .int .i64 md.left, .int .i64 md.bad] 24))) := FX.out.alloc _
  generalize (wr4.alloc (.cells #[.int .i64 md.addr, .int .i64 md.id, .bool md.want, .int .i64 md.per, .int .i64 md.st, .int .i64 md.fails, .bool md.tried, .int .i64 md.left, .int .i64 md.bad] 24)) = wx11 at *
  generalize wr4.heap.size = nv at *
  have HCk : Hid (∀ W, Calls Try.prog 20 #[.agg #[.int .i64 d.addr, .int .i64 d.id, .bool d.want, .int .i64 d.per, .int .i64 d.st, .int .i64 d.fails, .bool d.tried, .int .i64 d.left, .int .i64 d.bad]] W fun e w' => e = .returned (.int .i64 bd) ∧ Ext W w') := fun W => by
    have h := checkd_any d W
    rw [HOK.out, ← HBD.out] at h
    exact h
  have HE1 : Hid (∀ W, Ext wx11 W → Calls Try.prog 12 #[.agg #[.int .i64 x0, .int .i64 tr, .slice ya tw.length yc, .int .i64 tq], .agg #[.int .i64 x0, .int .i64 tr, .slice ta tw.length tc, .int .i64 tq]] W fun e w' => e = .returned (.bool true) ∧ Ext W w') := fun W x => eqtx_any x0 tr tq ya yc ta tc W (RYY.out W x) (RT.out W x) HTW.out
  have HE2 : Hid (∀ W, Ext wx11 W → Calls Try.prog 21 #[.slice va Lr.length vc, .slice ra Lr.length rb] W fun e w' => e = .returned (.bool true) ∧ Ext W w') := fun W x => eqraws_any va vc ra rb W (RV.out W x) (RL.out W x) HTWL.out
  have HE3 : Hid (∀ W, Ext wx11 W → Calls Try.prog 22 #[.agg #[.int .i64 ast, .slice br data.length bc], .agg #[.int .i64 ast, .slice da data.length dc]] W fun e w' => e = .returned (.bool true) ∧ Ext W w') := fun W x => eqanswer_any ast br bc da dc W (RB.out W x) (HRD.out W (FX.out.trans x)) (by have := H400.out; omega)
  clear RYY RT RL RB RV
  have qp0 : wx11.cell? ⟨np, 0, none⟩ = some (.int .i64 d.addr) := Fp.out.c 0 rfl
  have qp1 : wx11.cell? ⟨np, 1, none⟩ = some (.int .i64 d.id) := Fp.out.c 1 rfl
  have qp2 : wx11.cell? ⟨np, 2, none⟩ = some (.bool d.want) := Fp.out.c 2 rfl
  have qp3 : wx11.cell? ⟨np, 3, none⟩ = some (.int .i64 d.per) := Fp.out.c 3 rfl
  have qp4 : wx11.cell? ⟨np, 4, none⟩ = some (.int .i64 d.st) := Fp.out.c 4 rfl
  have qp5 : wx11.cell? ⟨np, 5, none⟩ = some (.int .i64 d.fails) := Fp.out.c 5 rfl
  have qp6 : wx11.cell? ⟨np, 6, none⟩ = some (.bool d.tried) := Fp.out.c 6 rfl
  have qp7 : wx11.cell? ⟨np, 7, none⟩ = some (.int .i64 d.left) := Fp.out.c 7 rfl
  have qp8 : wx11.cell? ⟨np, 8, none⟩ = some (.int .i64 d.bad) := Fp.out.c 8 rfl
  go_upto_region 33 with (first | (go_at_call 11; refine (HNU.out _ _).mono ?_; rintro e wx ⟨rfl, hwx⟩; (try dsimp only); have hwy := hwx.symm; clear hwx; subst hwy) | (go_at_call 20; refine (HCk.out _).mono ?_; rintro e ws1 ⟨rfl, y1⟩; (try dsimp only); have ex0 : ws1.cell? ⟨nx, 0, none⟩ = some (.int .i64 sd.addr) := (Fx.out.ext (y1)).c 0 rfl; have ex1 : ws1.cell? ⟨nx, 1, none⟩ = some (.int .i64 sd.id) := (Fx.out.ext (y1)).c 1 rfl; have ex2 : ws1.cell? ⟨nx, 2, none⟩ = some (.bool sd.want) := (Fx.out.ext (y1)).c 2 rfl; have ex3 : ws1.cell? ⟨nx, 3, none⟩ = some (.int .i64 sd.per) := (Fx.out.ext (y1)).c 3 rfl; have ex4 : ws1.cell? ⟨nx, 4, none⟩ = some (.int .i64 sd.st) := (Fx.out.ext (y1)).c 4 rfl; have ex5 : ws1.cell? ⟨nx, 5, none⟩ = some (.int .i64 sd.fails) := (Fx.out.ext (y1)).c 5 rfl; have ex6 : ws1.cell? ⟨nx, 6, none⟩ = some (.bool sd.tried) := (Fx.out.ext (y1)).c 6 rfl; have ex7 : ws1.cell? ⟨nx, 7, none⟩ = some (.int .i64 sd.left) := (Fx.out.ext (y1)).c 7 rfl; have ex8 : ws1.cell? ⟨nx, 8, none⟩ = some (.int .i64 sd.bad) := (Fx.out.ext (y1)).c 8 rfl; have ea0 : ws1.cell? ⟨na, 0, none⟩ = some (.int .i64 sd.addr) := (Fa.out.ext (y1)).c 0 rfl; have ea1 : ws1.cell? ⟨na, 1, none⟩ = some (.int .i64 sd.id) := (Fa.out.ext (y1)).c 1 rfl; have ea2 : ws1.cell? ⟨na, 2, none⟩ = some (.bool sd.want) := (Fa.out.ext (y1)).c 2 rfl; have ea3 : ws1.cell? ⟨na, 3, none⟩ = some (.int .i64 sd.per) := (Fa.out.ext (y1)).c 3 rfl; have ea4 : ws1.cell? ⟨na, 4, none⟩ = some (.int .i64 sd.st) := (Fa.out.ext (y1)).c 4 rfl; have ea5 : ws1.cell? ⟨na, 5, none⟩ = some (.int .i64 sd.fails) := (Fa.out.ext (y1)).c 5 rfl; have ea6 : ws1.cell? ⟨na, 6, none⟩ = some (.bool sd.tried) := (Fa.out.ext (y1)).c 6 rfl; have ea7 : ws1.cell? ⟨na, 7, none⟩ = some (.int .i64 sd.left) := (Fa.out.ext (y1)).c 7 rfl; have ea8 : ws1.cell? ⟨na, 8, none⟩ = some (.int .i64 sd.bad) := (Fa.out.ext (y1)).c 8 rfl; have ey0 : ws1.cell? ⟨ny, 0, none⟩ = some (.int .i64 x0) := (Fy.out.ext (y1)).c 0 rfl; have ey1 : ws1.cell? ⟨ny, 1, none⟩ = some (.int .i64 tr) := (Fy.out.ext (y1)).c 1 rfl; have ey2 : ws1.cell? ⟨ny, 2, none⟩ = some (.slice ya tw.length yc) := (Fy.out.ext (y1)).c 2 rfl; have ey3 : ws1.cell? ⟨ny, 3, none⟩ = some (.int .i64 tq) := (Fy.out.ext (y1)).c 3 rfl; have et0 : ws1.cell? ⟨nt, 0, none⟩ = some (.int .i64 x0) := (Ft.out.ext (y1)).c 0 rfl; have et1 : ws1.cell? ⟨nt, 1, none⟩ = some (.int .i64 tr) := (Ft.out.ext (y1)).c 1 rfl; have et2 : ws1.cell? ⟨nt, 2, none⟩ = some (.slice ta tw.length tc) := (Ft.out.ext (y1)).c 2 rfl; have et3 : ws1.cell? ⟨nt, 3, none⟩ = some (.int .i64 tq) := (Ft.out.ext (y1)).c 3 rfl) | (go_at_call 12; refine (HE1.out ws1 y1).mono ?_; rintro e ws2 ⟨rfl, y2⟩; (try dsimp only); have ev0 : ws2.cell? ⟨nv, 0, none⟩ = some (.int .i64 md.addr) := (Fv.out.ext (y1.trans y2)).c 0 rfl; have ev1 : ws2.cell? ⟨nv, 1, none⟩ = some (.int .i64 md.id) := (Fv.out.ext (y1.trans y2)).c 1 rfl; have ev2 : ws2.cell? ⟨nv, 2, none⟩ = some (.bool md.want) := (Fv.out.ext (y1.trans y2)).c 2 rfl; have ev3 : ws2.cell? ⟨nv, 3, none⟩ = some (.int .i64 md.per) := (Fv.out.ext (y1.trans y2)).c 3 rfl; have ev4 : ws2.cell? ⟨nv, 4, none⟩ = some (.int .i64 md.st) := (Fv.out.ext (y1.trans y2)).c 4 rfl; have ev5 : ws2.cell? ⟨nv, 5, none⟩ = some (.int .i64 md.fails) := (Fv.out.ext (y1.trans y2)).c 5 rfl; have ev6 : ws2.cell? ⟨nv, 6, none⟩ = some (.bool md.tried) := (Fv.out.ext (y1.trans y2)).c 6 rfl; have ev7 : ws2.cell? ⟨nv, 7, none⟩ = some (.int .i64 md.left) := (Fv.out.ext (y1.trans y2)).c 7 rfl; have ev8 : ws2.cell? ⟨nv, 8, none⟩ = some (.int .i64 md.bad) := (Fv.out.ext (y1.trans y2)).c 8 rfl; have ec0 : ws2.cell? ⟨nc, 0, none⟩ = some (.int .i64 md.addr) := (Fc.out.ext (y1.trans y2)).c 0 rfl; have ec1 : ws2.cell? ⟨nc, 1, none⟩ = some (.int .i64 md.id) := (Fc.out.ext (y1.trans y2)).c 1 rfl; have ec2 : ws2.cell? ⟨nc, 2, none⟩ = some (.bool md.want) := (Fc.out.ext (y1.trans y2)).c 2 rfl; have ec3 : ws2.cell? ⟨nc, 3, none⟩ = some (.int .i64 md.per) := (Fc.out.ext (y1.trans y2)).c 3 rfl; have ec4 : ws2.cell? ⟨nc, 4, none⟩ = some (.int .i64 md.st) := (Fc.out.ext (y1.trans y2)).c 4 rfl; have ec5 : ws2.cell? ⟨nc, 5, none⟩ = some (.int .i64 md.fails) := (Fc.out.ext (y1.trans y2)).c 5 rfl; have ec6 : ws2.cell? ⟨nc, 6, none⟩ = some (.bool md.tried) := (Fc.out.ext (y1.trans y2)).c 6 rfl; have ec7 : ws2.cell? ⟨nc, 7, none⟩ = some (.int .i64 md.left) := (Fc.out.ext (y1.trans y2)).c 7 rfl; have ec8 : ws2.cell? ⟨nc, 8, none⟩ = some (.int .i64 md.bad) := (Fc.out.ext (y1.trans y2)).c 8 rfl) | (go_at_call 21; refine (HE2.out ws2 (y1.trans y2)).mono ?_; rintro e ws3 ⟨rfl, y3⟩; (try dsimp only); have eb0 : ws3.cell? ⟨nb, 0, none⟩ = some (.int .i64 ast) := (Fb.out.ext ((y1.trans y2).trans y3)).c 0 rfl; have eb1 : ws3.cell? ⟨nb, 1, none⟩ = some (.slice br data.length bc) := (Fb.out.ext ((y1.trans y2).trans y3)).c 1 rfl; have ep11 : ws3.cell? ⟨np, 11, none⟩ = some (.int .i64 ast) := (Fp.out.ext ((y1.trans y2).trans y3)).c 11 rfl; have ep12 : ws3.cell? ⟨np, 12, none⟩ = some (.slice da data.length dc) := (Fp.out.ext ((y1.trans y2).trans y3)).c 12 rfl) | (go_at_call 22; refine (HE3.out ws3 ((y1.trans y2).trans y3)).mono ?_; rintro e ws4 ⟨rfl, y4⟩; (try dsimp only)))
  have yy : Ext wx11 ws4 := ((y1.trans y2).trans y3).trans y4
  clear qp0 qp1 qp2 qp3 qp4 qp5 qp6 qp7 qp8 y1 y2 y3 y4 HE1 HE2 HE3 HCk ex0 ex1 ex2 ex3 ex4 ex5 ex6 ex7 ex8 ea0 ea1 ea2 ea3 ea4 ea5 ea6 ea7 ea8 ey0 ey1 ey2 ey3 et0 et1 et2 et3 ev0 ev1 ev2 ev3 ev4 ev5 ev6 ev7 ev8 ec0 ec1 ec2 ec3 ec4 ec5 ec6 ec7 ec8 eb0 eb1 ep11 ep12
  clear Fa
  clear Fc
  clear Ft
  clear Fx
  clear Fy
  clear Fb
  clear Fv
  have Fp : Hid (HV ws4 np [.int .i64 d.addr, .int .i64 d.id, .bool d.want, .int .i64 d.per, .int .i64 d.st, .int .i64 d.fails, .bool d.tried, .int .i64 d.left, .int .i64 d.bad, .bool wn, .int .i64 pr, .int .i64 ast, .slice da data.length dc]) := Fp.out.ext yy
  have FX : Hid (Ext w ws4) := FX.out.trans yy
  clear yy XV
  cases hnw : okD (newD d.addr d.id)
  · have HNW : Hid (∀ W, Calls Try.prog 23 #[.int .i64 d.addr, .int .i64 d.id] W fun e w' => e = .returned (.tuple #[.agg #[.int .i64 0, .int .i64 0, .bool false, .int .i64 0, .int .i64 0, .int .i64 0, .bool false, .int .i64 0, .int .i64 0], .int .i64 1]) ∧ Ext W w') := fun W => by
      have h := newdr_any d.addr d.id W
      rw [hnw] at h
      exact h
    have HM2 : Hid (∀ W, Calls Try.prog 10 #[.agg #[.int .i64 (d.addr), .int .i64 (d.id), .bool false, .int .i64 1, .int .i64 0, .int .i64 0, .bool false, .int .i64 0, .int .i64 0]] W fun e w' => e = .returned (.bool false) ∧ Ext W w') := fun W => by
      have h := mayd_any (newD d.addr d.id) W
      rw [hnw] at h
      exact h
    clear hnw
    have qp0 : ws4.cell? ⟨np, 0, none⟩ = some (.int .i64 d.addr) := Fp.out.c 0 rfl
    have qp1 : ws4.cell? ⟨np, 1, none⟩ = some (.int .i64 d.id) := Fp.out.c 1 rfl
    go_upto_region 34 with (first | (go_at_call 23; refine (HNW.out _).mono ?_; rintro e wt1 ⟨rfl, xt1⟩; (try dsimp only)))
    have Fp : Hid (HV wt1 np [.int .i64 d.addr, .int .i64 d.id, .bool d.want, .int .i64 d.per, .int .i64 d.st, .int .i64 d.fails, .bool d.tried, .int .i64 d.left, .int .i64 d.bad, .bool wn, .int .i64 pr, .int .i64 ast, .slice da data.length dc]) := Fp.out.ext xt1
    have FX : Hid (Ext w wt1) := FX.out.trans xt1
    clear qp0 qp1 xt1 HNW
    have ltpn : np < wt1.heap.size := Fp.out.1
    have Ln : Hid (w.heap.size ≤ wt1.heap.size) := FX.out.size
    have Fp : Hid (HV (wt1.alloc (.cells #[.int .i64 0, .int .i64 0, .bool false, .int .i64 0, .int .i64 0, .int .i64 0, .bool false, .int .i64 0, .int .i64 0] 24)) np [.int .i64 d.addr, .int .i64 d.id, .bool d.want, .int .i64 d.per, .int .i64 d.st, .int .i64 d.fails, .bool d.tried, .int .i64 d.left, .int .i64 d.bad, .bool wn, .int .i64 pr, .int .i64 ast, .slice da data.length dc]) := Fp.out.alloc _
    have Fn : Hid (HV (wt1.alloc (.cells #[.int .i64 0, .int .i64 0, .bool false, .int .i64 0, .int .i64 0, .int .i64 0, .bool false, .int .i64 0, .int .i64 0] 24)) wt1.heap.size [.int .i64 0, .int .i64 0, .bool false, .int .i64 0, .int .i64 0, .int .i64 0, .bool false, .int .i64 0, .int .i64 0]) := hv_at rfl
    have FX : Hid (Ext w (wt1.alloc (.cells #[.int .i64 0, .int .i64 0, .bool false, .int .i64 0, .int .i64 0, .int .i64 0, .bool false, .int .i64 0, .int .i64 0] 24))) := FX.out.alloc _
    generalize (wt1.alloc (.cells #[.int .i64 0, .int .i64 0, .bool false, .int .i64 0, .int .i64 0, .int .i64 0, .bool false, .int .i64 0, .int .i64 0] 24)) = wx52 at *
    generalize wt1.heap.size = nn at *
    have qp0 : wx52.cell? ⟨np, 0, none⟩ = some (.int .i64 d.addr) := Fp.out.c 0 rfl
    have qp1 : wx52.cell? ⟨np, 1, none⟩ = some (.int .i64 d.id) := Fp.out.c 1 rfl
    go_upto_region 35 with fail
    clear qp0 qp1
    have ltpw : np < wx52.heap.size := Fp.out.1
    have ltnw : nn < wx52.heap.size := Fn.out.1
    have Lw : Hid (w.heap.size ≤ wx52.heap.size) := FX.out.size
    have Fp : Hid (HV (wx52.alloc (.cells #[.int .i64 (d.addr), .int .i64 (d.id), .bool false, .int .i64 1, .int .i64 0, .int .i64 0, .bool false, .int .i64 0, .int .i64 0] 24)) np [.int .i64 d.addr, .int .i64 d.id, .bool d.want, .int .i64 d.per, .int .i64 d.st, .int .i64 d.fails, .bool d.tried, .int .i64 d.left, .int .i64 d.bad, .bool wn, .int .i64 pr, .int .i64 ast, .slice da data.length dc]) := Fp.out.alloc _
    have Fn : Hid (HV (wx52.alloc (.cells #[.int .i64 (d.addr), .int .i64 (d.id), .bool false, .int .i64 1, .int .i64 0, .int .i64 0, .bool false, .int .i64 0, .int .i64 0] 24)) nn [.int .i64 0, .int .i64 0, .bool false, .int .i64 0, .int .i64 0, .int .i64 0, .bool false, .int .i64 0, .int .i64 0]) := Fn.out.alloc _
    have Fw : Hid (HV (wx52.alloc (.cells #[.int .i64 (d.addr), .int .i64 (d.id), .bool false, .int .i64 1, .int .i64 0, .int .i64 0, .bool false, .int .i64 0, .int .i64 0] 24)) wx52.heap.size [.int .i64 (d.addr), .int .i64 (d.id), .bool false, .int .i64 1, .int .i64 0, .int .i64 0, .bool false, .int .i64 0, .int .i64 0]) := hv_at rfl
    have FX : Hid (Ext w (wx52.alloc (.cells #[.int .i64 (d.addr), .int .i64 (d.id), .bool false, .int .i64 1, .int .i64 0, .int .i64 0, .bool false, .int .i64 0, .int .i64 0] 24))) := FX.out.alloc _
    generalize (wx52.alloc (.cells #[.int .i64 (d.addr), .int .i64 (d.id), .bool false, .int .i64 1, .int .i64 0, .int .i64 0, .bool false, .int .i64 0, .int .i64 0] 24)) = wx53 at *
    generalize wx52.heap.size = nw at *
    have qw0 : wx53.cell? ⟨nw, 0, none⟩ = some (.int .i64 (d.addr)) := Fw.out.c 0 rfl
    have qw1 : wx53.cell? ⟨nw, 1, none⟩ = some (.int .i64 (d.id)) := Fw.out.c 1 rfl
    have qw2 : wx53.cell? ⟨nw, 2, none⟩ = some (.bool false) := Fw.out.c 2 rfl
    have qw3 : wx53.cell? ⟨nw, 3, none⟩ = some (.int .i64 1) := Fw.out.c 3 rfl
    have qw4 : wx53.cell? ⟨nw, 4, none⟩ = some (.int .i64 0) := Fw.out.c 4 rfl
    have qw5 : wx53.cell? ⟨nw, 5, none⟩ = some (.int .i64 0) := Fw.out.c 5 rfl
    have qw6 : wx53.cell? ⟨nw, 6, none⟩ = some (.bool false) := Fw.out.c 6 rfl
    have qw7 : wx53.cell? ⟨nw, 7, none⟩ = some (.int .i64 0) := Fw.out.c 7 rfl
    have qw8 : wx53.cell? ⟨nw, 8, none⟩ = some (.int .i64 0) := Fw.out.c 8 rfl
    go_upto_region 36 with (first | (go_at_call 10; refine (HM2.out _).mono ?_; rintro e wt2 ⟨rfl, xt2⟩; (try dsimp only)))
    have Fp : Hid (HV wt2 np [.int .i64 d.addr, .int .i64 d.id, .bool d.want, .int .i64 d.per, .int .i64 d.st, .int .i64 d.fails, .bool d.tried, .int .i64 d.left, .int .i64 d.bad, .bool wn, .int .i64 pr, .int .i64 ast, .slice da data.length dc]) := Fp.out.ext xt2
    have Fn : Hid (HV wt2 nn [.int .i64 0, .int .i64 0, .bool false, .int .i64 0, .int .i64 0, .int .i64 0, .bool false, .int .i64 0, .int .i64 0]) := Fn.out.ext xt2
    have Fw : Hid (HV wt2 nw [.int .i64 (d.addr), .int .i64 (d.id), .bool false, .int .i64 1, .int .i64 0, .int .i64 0, .bool false, .int .i64 0, .int .i64 0]) := Fw.out.ext xt2
    have FX : Hid (Ext w wt2) := FX.out.trans xt2
    clear qw0 qw1 qw2 qw3 qw4 qw5 qw6 qw7 qw8 xt2 HM2
    have qw0 : wt2.cell? ⟨nw, 0, none⟩ = some (.int .i64 (d.addr)) := Fw.out.c 0 rfl
    have qw1 : wt2.cell? ⟨nw, 1, none⟩ = some (.int .i64 (d.id)) := Fw.out.c 1 rfl
    have qw2 : wt2.cell? ⟨nw, 2, none⟩ = some (.bool false) := Fw.out.c 2 rfl
    have qw3 : wt2.cell? ⟨nw, 3, none⟩ = some (.int .i64 1) := Fw.out.c 3 rfl
    have qw4 : wt2.cell? ⟨nw, 4, none⟩ = some (.int .i64 0) := Fw.out.c 4 rfl
    have qw5 : wt2.cell? ⟨nw, 5, none⟩ = some (.int .i64 0) := Fw.out.c 5 rfl
    have qw6 : wt2.cell? ⟨nw, 6, none⟩ = some (.bool false) := Fw.out.c 6 rfl
    have qw7 : wt2.cell? ⟨nw, 7, none⟩ = some (.int .i64 0) := Fw.out.c 7 rfl
    have qw8 : wt2.cell? ⟨nw, 8, none⟩ = some (.int .i64 0) := Fw.out.c 8 rfl
    have qn0 : wt2.cell? ⟨nn, 0, none⟩ = some (.int .i64 0) := Fn.out.c 0 rfl
    have qn1 : wt2.cell? ⟨nn, 1, none⟩ = some (.int .i64 0) := Fn.out.c 1 rfl
    have qn2 : wt2.cell? ⟨nn, 2, none⟩ = some (.bool false) := Fn.out.c 2 rfl
    have qn3 : wt2.cell? ⟨nn, 3, none⟩ = some (.int .i64 0) := Fn.out.c 3 rfl
    have qn4 : wt2.cell? ⟨nn, 4, none⟩ = some (.int .i64 0) := Fn.out.c 4 rfl
    have qn5 : wt2.cell? ⟨nn, 5, none⟩ = some (.int .i64 0) := Fn.out.c 5 rfl
    have qn6 : wt2.cell? ⟨nn, 6, none⟩ = some (.bool false) := Fn.out.c 6 rfl
    have qn7 : wt2.cell? ⟨nn, 7, none⟩ = some (.int .i64 0) := Fn.out.c 7 rfl
    have qn8 : wt2.cell? ⟨nn, 8, none⟩ = some (.int .i64 0) := Fn.out.c 8 rfl
    go_wp2_with (go_at_call 11; refine (HNU.out _ _).mono ?_; rintro e wx ⟨rfl, hwx⟩; (try dsimp only); have hwy := hwx.symm; clear hwx; subst hwy)
    clear qw0 qw1 qw2 qw3 qw4 qw5 qw6 qw7 qw8 qn0 qn1 qn2 qn3 qn4 qn5 qn6 qn7 qn8
    exact hQ.out _ _ _ _ _ _ _ _ _ _ _ _ _ _ _ _ _ _ _ _ _ _ _ _ _ _ _ _ _ _ _ _ _ _ _ _ _ _ _ _ _ _ _ _ _ _ _ _ _ _ _ _ _ _ _ _ _ _ _ _ _ _ _ _ _ _ _ _ _ _ _ _ _ _ _ _ _ _ _ _ _ _ _ _ _ _ _ _ _ _ _ _ _ _ _ _ _ _ _ _ _ _ _ _ _ _ _ _ _ _ _ _ _ _ _ _ _ _ _ _ _ _ _ _ _ _ _ _ _ _ _ _ _ _ _ _ _ _ _ _ _ _ _ _ _ _ _ _ _ _ _ _ _ _ _ _ _ _ _ _ _ _ _ _ _ _ _ _ _ _ _ _ _ _ _ _ _ _ _ _ _ _ _ _ _ _ _ _ _ _ _ _ _ _ _ _ _ _ _ _ _ _ _ _ _ _ _ _ _ _ _ _ _ _ _ _ _ _ _ _ _ _ _ _ _ _ _ _ _ FX
  · have HNW : Hid (∀ W, Calls Try.prog 23 #[.int .i64 d.addr, .int .i64 d.id] W fun e w' => e = .returned (.tuple #[.agg #[.int .i64 (d.addr), .int .i64 (d.id), .bool false, .int .i64 1, .int .i64 0, .int .i64 0, .bool false, .int .i64 0, .int .i64 0], .int .i64 0]) ∧ Ext W w') := fun W => by
      have h := newdr_any d.addr d.id W
      rw [hnw] at h
      exact h
    have HM2 : Hid (∀ W, Calls Try.prog 10 #[.agg #[.int .i64 (d.addr), .int .i64 (d.id), .bool false, .int .i64 1, .int .i64 0, .int .i64 0, .bool false, .int .i64 0, .int .i64 0]] W fun e w' => e = .returned (.bool true) ∧ Ext W w') := fun W => by
      have h := mayd_any (newD d.addr d.id) W
      rw [hnw] at h
      exact h
    clear hnw
    have qp0 : ws4.cell? ⟨np, 0, none⟩ = some (.int .i64 d.addr) := Fp.out.c 0 rfl
    have qp1 : ws4.cell? ⟨np, 1, none⟩ = some (.int .i64 d.id) := Fp.out.c 1 rfl
    go_upto_region 34 with (first | (go_at_call 23; refine (HNW.out _).mono ?_; rintro e wt1 ⟨rfl, xt1⟩; (try dsimp only)))
    have Fp : Hid (HV wt1 np [.int .i64 d.addr, .int .i64 d.id, .bool d.want, .int .i64 d.per, .int .i64 d.st, .int .i64 d.fails, .bool d.tried, .int .i64 d.left, .int .i64 d.bad, .bool wn, .int .i64 pr, .int .i64 ast, .slice da data.length dc]) := Fp.out.ext xt1
    have FX : Hid (Ext w wt1) := FX.out.trans xt1
    clear qp0 qp1 xt1 HNW
    have ltpn : np < wt1.heap.size := Fp.out.1
    have Ln : Hid (w.heap.size ≤ wt1.heap.size) := FX.out.size
    have Fp : Hid (HV (wt1.alloc (.cells #[.int .i64 (d.addr), .int .i64 (d.id), .bool false, .int .i64 1, .int .i64 0, .int .i64 0, .bool false, .int .i64 0, .int .i64 0] 24)) np [.int .i64 d.addr, .int .i64 d.id, .bool d.want, .int .i64 d.per, .int .i64 d.st, .int .i64 d.fails, .bool d.tried, .int .i64 d.left, .int .i64 d.bad, .bool wn, .int .i64 pr, .int .i64 ast, .slice da data.length dc]) := Fp.out.alloc _
    have Fn : Hid (HV (wt1.alloc (.cells #[.int .i64 (d.addr), .int .i64 (d.id), .bool false, .int .i64 1, .int .i64 0, .int .i64 0, .bool false, .int .i64 0, .int .i64 0] 24)) wt1.heap.size [.int .i64 (d.addr), .int .i64 (d.id), .bool false, .int .i64 1, .int .i64 0, .int .i64 0, .bool false, .int .i64 0, .int .i64 0]) := hv_at rfl
    have FX : Hid (Ext w (wt1.alloc (.cells #[.int .i64 (d.addr), .int .i64 (d.id), .bool false, .int .i64 1, .int .i64 0, .int .i64 0, .bool false, .int .i64 0, .int .i64 0] 24))) := FX.out.alloc _
    generalize (wt1.alloc (.cells #[.int .i64 (d.addr), .int .i64 (d.id), .bool false, .int .i64 1, .int .i64 0, .int .i64 0, .bool false, .int .i64 0, .int .i64 0] 24)) = wx52 at *
    generalize wt1.heap.size = nn at *
    have qp0 : wx52.cell? ⟨np, 0, none⟩ = some (.int .i64 d.addr) := Fp.out.c 0 rfl
    have qp1 : wx52.cell? ⟨np, 1, none⟩ = some (.int .i64 d.id) := Fp.out.c 1 rfl
    go_upto_region 35 with fail
    clear qp0 qp1
    have ltpw : np < wx52.heap.size := Fp.out.1
    have ltnw : nn < wx52.heap.size := Fn.out.1
    have Lw : Hid (w.heap.size ≤ wx52.heap.size) := FX.out.size
    have Fp : Hid (HV (wx52.alloc (.cells #[.int .i64 (d.addr), .int .i64 (d.id), .bool false, .int .i64 1, .int .i64 0, .int .i64 0, .bool false, .int .i64 0, .int .i64 0] 24)) np [.int .i64 d.addr, .int .i64 d.id, .bool d.want, .int .i64 d.per, .int .i64 d.st, .int .i64 d.fails, .bool d.tried, .int .i64 d.left, .int .i64 d.bad, .bool wn, .int .i64 pr, .int .i64 ast, .slice da data.length dc]) := Fp.out.alloc _
    have Fn : Hid (HV (wx52.alloc (.cells #[.int .i64 (d.addr), .int .i64 (d.id), .bool false, .int .i64 1, .int .i64 0, .int .i64 0, .bool false, .int .i64 0, .int .i64 0] 24)) nn [.int .i64 (d.addr), .int .i64 (d.id), .bool false, .int .i64 1, .int .i64 0, .int .i64 0, .bool false, .int .i64 0, .int .i64 0]) := Fn.out.alloc _
    have Fw : Hid (HV (wx52.alloc (.cells #[.int .i64 (d.addr), .int .i64 (d.id), .bool false, .int .i64 1, .int .i64 0, .int .i64 0, .bool false, .int .i64 0, .int .i64 0] 24)) wx52.heap.size [.int .i64 (d.addr), .int .i64 (d.id), .bool false, .int .i64 1, .int .i64 0, .int .i64 0, .bool false, .int .i64 0, .int .i64 0]) := hv_at rfl
    have FX : Hid (Ext w (wx52.alloc (.cells #[.int .i64 (d.addr), .int .i64 (d.id), .bool false, .int .i64 1, .int .i64 0, .int .i64 0, .bool false, .int .i64 0, .int .i64 0] 24))) := FX.out.alloc _
    generalize (wx52.alloc (.cells #[.int .i64 (d.addr), .int .i64 (d.id), .bool false, .int .i64 1, .int .i64 0, .int .i64 0, .bool false, .int .i64 0, .int .i64 0] 24)) = wx53 at *
    generalize wx52.heap.size = nw at *
    have qw0 : wx53.cell? ⟨nw, 0, none⟩ = some (.int .i64 (d.addr)) := Fw.out.c 0 rfl
    have qw1 : wx53.cell? ⟨nw, 1, none⟩ = some (.int .i64 (d.id)) := Fw.out.c 1 rfl
    have qw2 : wx53.cell? ⟨nw, 2, none⟩ = some (.bool false) := Fw.out.c 2 rfl
    have qw3 : wx53.cell? ⟨nw, 3, none⟩ = some (.int .i64 1) := Fw.out.c 3 rfl
    have qw4 : wx53.cell? ⟨nw, 4, none⟩ = some (.int .i64 0) := Fw.out.c 4 rfl
    have qw5 : wx53.cell? ⟨nw, 5, none⟩ = some (.int .i64 0) := Fw.out.c 5 rfl
    have qw6 : wx53.cell? ⟨nw, 6, none⟩ = some (.bool false) := Fw.out.c 6 rfl
    have qw7 : wx53.cell? ⟨nw, 7, none⟩ = some (.int .i64 0) := Fw.out.c 7 rfl
    have qw8 : wx53.cell? ⟨nw, 8, none⟩ = some (.int .i64 0) := Fw.out.c 8 rfl
    go_upto_region 36 with (first | (go_at_call 10; refine (HM2.out _).mono ?_; rintro e wt2 ⟨rfl, xt2⟩; (try dsimp only)))
    have Fp : Hid (HV wt2 np [.int .i64 d.addr, .int .i64 d.id, .bool d.want, .int .i64 d.per, .int .i64 d.st, .int .i64 d.fails, .bool d.tried, .int .i64 d.left, .int .i64 d.bad, .bool wn, .int .i64 pr, .int .i64 ast, .slice da data.length dc]) := Fp.out.ext xt2
    have Fn : Hid (HV wt2 nn [.int .i64 (d.addr), .int .i64 (d.id), .bool false, .int .i64 1, .int .i64 0, .int .i64 0, .bool false, .int .i64 0, .int .i64 0]) := Fn.out.ext xt2
    have Fw : Hid (HV wt2 nw [.int .i64 (d.addr), .int .i64 (d.id), .bool false, .int .i64 1, .int .i64 0, .int .i64 0, .bool false, .int .i64 0, .int .i64 0]) := Fw.out.ext xt2
    have FX : Hid (Ext w wt2) := FX.out.trans xt2
    clear qw0 qw1 qw2 qw3 qw4 qw5 qw6 qw7 qw8 xt2 HM2
    have qw0 : wt2.cell? ⟨nw, 0, none⟩ = some (.int .i64 (d.addr)) := Fw.out.c 0 rfl
    have qw1 : wt2.cell? ⟨nw, 1, none⟩ = some (.int .i64 (d.id)) := Fw.out.c 1 rfl
    have qw2 : wt2.cell? ⟨nw, 2, none⟩ = some (.bool false) := Fw.out.c 2 rfl
    have qw3 : wt2.cell? ⟨nw, 3, none⟩ = some (.int .i64 1) := Fw.out.c 3 rfl
    have qw4 : wt2.cell? ⟨nw, 4, none⟩ = some (.int .i64 0) := Fw.out.c 4 rfl
    have qw5 : wt2.cell? ⟨nw, 5, none⟩ = some (.int .i64 0) := Fw.out.c 5 rfl
    have qw6 : wt2.cell? ⟨nw, 6, none⟩ = some (.bool false) := Fw.out.c 6 rfl
    have qw7 : wt2.cell? ⟨nw, 7, none⟩ = some (.int .i64 0) := Fw.out.c 7 rfl
    have qw8 : wt2.cell? ⟨nw, 8, none⟩ = some (.int .i64 0) := Fw.out.c 8 rfl
    have qn0 : wt2.cell? ⟨nn, 0, none⟩ = some (.int .i64 (d.addr)) := Fn.out.c 0 rfl
    have qn1 : wt2.cell? ⟨nn, 1, none⟩ = some (.int .i64 (d.id)) := Fn.out.c 1 rfl
    have qn2 : wt2.cell? ⟨nn, 2, none⟩ = some (.bool false) := Fn.out.c 2 rfl
    have qn3 : wt2.cell? ⟨nn, 3, none⟩ = some (.int .i64 1) := Fn.out.c 3 rfl
    have qn4 : wt2.cell? ⟨nn, 4, none⟩ = some (.int .i64 0) := Fn.out.c 4 rfl
    have qn5 : wt2.cell? ⟨nn, 5, none⟩ = some (.int .i64 0) := Fn.out.c 5 rfl
    have qn6 : wt2.cell? ⟨nn, 6, none⟩ = some (.bool false) := Fn.out.c 6 rfl
    have qn7 : wt2.cell? ⟨nn, 7, none⟩ = some (.int .i64 0) := Fn.out.c 7 rfl
    have qn8 : wt2.cell? ⟨nn, 8, none⟩ = some (.int .i64 0) := Fn.out.c 8 rfl
    go_wp2_with (go_at_call 11; refine (HNU.out _ _).mono ?_; rintro e wx ⟨rfl, hwx⟩; (try dsimp only); have hwy := hwx.symm; clear hwx; subst hwy)
    clear qw0 qw1 qw2 qw3 qw4 qw5 qw6 qw7 qw8 qn0 qn1 qn2 qn3 qn4 qn5 qn6 qn7 qn8
    exact hQ.out _ _ _ _ _ _ _ _ _ _ _ _ _ _ _ _ _ _ _ _ _ _ _ _ _ _ _ _ _ _ _ _ _ _ _ _ _ _ _ _ _ _ _ _ _ _ _ _ _ _ _ _ _ _ _ _ _ _ _ _ _ _ _ _ _ _ _ _ _ _ _ _ _ _ _ _ _ _ _ _ _ _ _ _ _ _ _ _ _ _ _ _ _ _ _ _ _ _ _ _ _ _ _ _ _ _ _ _ _ _ _ _ _ _ _ _ _ _ _ _ _ _ _ _ _ _ _ _ _ _ _ _ _ _ _ _ _ _ _ _ _ _ _ _ _ _ _ _ _ _ _ _ _ _ _ _ _ _ _ _ _ _ _ _ _ _ _ _ _ _ _ _ _ _ _ _ _ _ _ _ _ _ _ _ _ _ _ _ _ _ _ _ _ _ _ _ _ _ _ _ _ _ _ _ _ _ _ _ _ _ _ _ _ _ _ _ _ _ _ _ _ _ _ _ _ _ _ _ _ FX
end Go.Proofs.Ytdfhhfpfnkjbnaa
