/- DrvExact: what a round does from region 13 on. -/
import Derived.Test.YtdfhhfpfnkjbnaaFx1
namespace Go.Proofs.Ytdfhhfpfnkjbnaa
open Go.RowKit Go.Conc
set_option maxRecDepth 20000 in
set_option maxHeartbeats 16000000 in
theorem dexactd (w wm : World) (d : Dr) (okd wn po : Bool) (bd sv pr ast : Int) (data : List Int) (da : Option Addr) (dc np : Nat) (bd0 cd : Code) (hbd : Try.f5.body = some bd0) (hcd : cd = rgt [(), (), (), (), (), ()] (inn1 (lft (rgt [()] (inn1 (inn1 (rgt [()] (lft (rgt [()] bd0))))))))) (z0 z1 z2 z3 z9 z10 z11 z12 z13 z14 z15 z16 z17 z18 z19 z20 z21 z22 z23 z24 z25 z26 z27 z28 z29 z30 z31 z32 z33 z34 z35 z36 z37 z38 z39 z40 z41 z42 z43 z44 z45 z46 z47 z48 z49 z50 z51 z52 z53 z54 z55 z56 z57 z58 z59 z60 z61 z62 z63 z64 z65 z66 z67 z68 z69 z70 z71 z72 z73 z74 z75 z76 z77 z78 z79 z80 z81 z82 z83 z84 z85 z86 z87 z88 z89 z90 z91 z92 z93 z94 z95 z96 z97 z98 z99 z100 z101 z102 z103 z104 z105 z106 z107 z108 z109 z110 z111 z112 z113 z114 z115 z116 z117 z118 z119 z120 z121 z122 z123 z124 z125 z126 z127 z128 z129 z130 z131 z132 z133 z134 z135 z136 z137 z138 z139 z140 z141 z142 z143 z144 z145 z146 z147 z148 z149 z150 z151 z152 z153 z154 z155 z156 z157 z158 z159 z160 z161 z162 z163 z164 z165 z166 z167 z168 z169 z170 z171 z172 z173 z174 z175 z176 z177 z178 z179 z180 z181 z182 z183 z184 z185 z186 z187 z188 z189 z190 z191 z192 z193 z194 z195 z196 z197 z198 z199 z200 z201 z202 z203 z204 z205 z206 z207 z208 z209 z210 z211 z212 z213 z214 z215 z216 z217 z218 z219 z220 z221 z222 z223 z224 z225 z226 z227 z228 z229 z230 z231 z232 : Value) (QQ : Exit → Act → World → Prop)
    (hQ : Hid (∀ (y4 y5 y6 y7 y8 y9 y10 y11 y12 y13 y14 y15 y16 y17 y18 y19 y20 y21 y22 y23 y24 y25 y26 y27 y28 y29 y30 y31 y32 y33 y34 y35 y36 y37 y38 y39 y40 y41 y42 y43 y44 y45 y46 y47 y48 y49 y50 y51 y52 y53 y54 y55 y56 y57 y58 y59 y60 y61 y62 y63 y64 y65 y66 y67 y68 y69 y70 y71 y72 y73 y74 y75 y76 y77 y78 y79 y80 y81 y82 y83 y84 y85 y86 y87 y88 y89 y90 y91 y92 y93 y94 y95 y96 y97 y98 y99 y100 y101 y102 y103 y104 y105 y106 y107 y108 y109 y110 y111 y112 y113 y114 y115 y116 y117 y118 y119 y120 y121 y122 y123 y124 y125 y126 y127 y128 y129 y130 y131 y132 y133 y134 y135 y136 y137 y138 y139 y140 y141 y142 y143 y144 y145 y146 y147 y148 y149 y150 y151 y152 y153 y154 y155 y156 y157 y158 y159 y160 y161 y162 y163 y164 y165 y166 y167 y168 y169 y170 y171 y172 y173 y174 y175 y176 y177 y178 y179 y180 y181 y182 y183 y184 y185 y186 y187 y188 y189 y190 y191 y192 y193 y194 y195 y196 y197 y198 y199 y200 y201 y202 y203 y204 y205 y206 y207 y208 y209 y210 y211 y212 y213 y214 y215 y216 y217 y218 y219 y220 y221 y222 y223 y224 y225 y226 y227 y228 y229 y230 y231 : Value) (w' : World), Hid (Ext w w') → QQ Exit.normal { tmps := #[z0, z1, z2, z3, y4, y5, y6, y7, y8, y9, y10, y11, y12, y13, y14, y15, y16, y17, y18, y19, y20, y21, y22, y23, y24, y25, y26, y27, y28, y29, y30, y31, y32, y33, y34, y35, y36, y37, y38, y39, y40, y41, y42, y43, y44, y45, y46, y47, y48, y49, y50, y51, y52, y53, y54, y55, y56, y57, y58, y59, y60, y61, y62, y63, y64, y65, y66, y67, y68, y69, y70, y71, y72, y73, y74, y75, y76, y77, y78, y79, y80, y81, y82, y83, y84, y85, y86, y87, y88, y89, y90, y91, y92, y93, y94, y95, y96, y97, y98, y99, y100, y101, y102, y103, y104, y105, y106, y107, y108, y109, y110, y111, y112, y113, y114, y115, y116, y117, y118, y119, y120, y121, y122, y123, y124, y125, y126, y127, y128, y129, y130, y131, y132, y133, y134, y135, y136, y137, y138, y139, y140, y141, y142, y143, y144, y145, y146, y147, y148, y149, y150, y151, y152, y153, y154, y155, y156, y157, y158, y159, y160, y161, y162, y163, y164, y165, y166, y167, y168, y169, y170, y171, y172, y173, y174, y175, y176, y177, y178, y179, y180, y181, y182, y183, y184, y185, y186, y187, y188, y189, y190, y191, y192, y193, y194, y195, y196, y197, y198, y199, y200, y201, y202, y203, y204, y205, y206, y207, y208, y209, y210, y211, y212, y213, y214, y215, y216, y217, y218, y219, y220, y221, y222, y223, y224, y225, y226, y227, y228, y229, y230, y231, z232], defers := [] } w'))
    (HNU : Hid (∀ v w', Calls Try.prog 11 #[.int .i64 v] w' fun e w'' => e = .returned (.int .i64 v) ∧ w'' = w')) (HOK : Hid (okD d = okd)) (HBD : Hid (bd = if okd = true then 0 else 1)) (HSV : Hid (sv = if po = true then bd else 1)) (HPO : Hid (inn pr 1 250 = po)) (HRD0 : Hid (RdY w 0 da data ∧ data.length ≤ dc ∧ ∀ j, 0 ≤ data.getD j 0 ∧ data.getD j 0 ≤ 255)) (HRD : Hid (∀ W, Ext w W → RdY W 0 da data)) (H400 : Hid (data.length ≤ 400)) (Fp : Hid (HV wm np [.int .i64 d.addr, .int .i64 d.id, .bool d.want, .int .i64 d.per, .int .i64 d.st, .int .i64 d.fails, .bool d.tried, .int .i64 d.left, .int .i64 d.bad, .bool wn, .int .i64 pr, .int .i64 ast, .slice da data.length dc])) (FX : Hid (Ext w wm)) :
    Code.wp Try.prog cd QQ { tmps := #[z0, z1, z2, z3, .pointer (some ⟨np, 0, none⟩), .int .i64 bd, .int .i64 sv, .int .i64 bd, .int .i64 bd, z9, z10, z11, z12, z13, z14, z15, z16, z17, z18, z19, z20, z21, z22, z23, z24, z25, z26, z27, z28, z29, z30, z31, z32, z33, z34, z35, z36, z37, z38, z39, z40, z41, z42, z43, z44, z45, z46, z47, z48, z49, z50, z51, z52, z53, z54, z55, z56, z57, z58, z59, z60, z61, z62, z63, z64, z65, z66, z67, z68, z69, z70, z71, z72, z73, z74, z75, z76, z77, z78, z79, z80, z81, z82, z83, z84, z85, z86, z87, z88, z89, z90, z91, z92, z93, z94, z95, z96, z97, z98, z99, z100, z101, z102, z103, z104, z105, z106, z107, z108, z109, z110, z111, z112, z113, z114, z115, z116, z117, z118, z119, z120, z121, z122, z123, z124, z125, z126, z127, z128, z129, z130, z131, z132, z133, z134, z135, z136, z137, z138, z139, z140, z141, z142, z143, z144, z145, z146, z147, z148, z149, z150, z151, z152, z153, z154, z155, z156, z157, z158, z159, z160, z161, z162, z163, z164, z165, z166, z167, z168, z169, z170, z171, z172, z173, z174, z175, z176, z177, z178, z179, z180, z181, z182, z183, z184, z185, z186, z187, z188, z189, z190, z191, z192, z193, z194, z195, z196, z197, z198, z199, z200, z201, z202, z203, z204, z205, z206, z207, z208, z209, z210, z211, z212, z213, z214, z215, z216, z217, z218, z219, z220, z221, z222, z223, z224, z225, z226, z227, z228, z229, z230, z231, z232], defers := [] } wm := by
  subst hcd
  simp only [Try.f5] at hbd
  injection hbd with hbd
  subst hbd
  simp only [rgt, lft, inn1]
  go_upto_region 14 with fail
  have hna : (wm.alloc (.cells #[.int .i64 0, .int .i64 0, .bool false, .int .i64 0, .int .i64 0, .int .i64 0, .bool false, .int .i64 0, .int .i64 0] 24)).heap.size = wm.heap.size + 1 := by simp
  have ltpa : np < wm.heap.size := Fp.out.1
  have La : Hid (w.heap.size ≤ wm.heap.size) := FX.out.size
  have Fp : Hid (HV (wm.alloc (.cells #[.int .i64 0, .int .i64 0, .bool false, .int .i64 0, .int .i64 0, .int .i64 0, .bool false, .int .i64 0, .int .i64 0] 24)) np [.int .i64 d.addr, .int .i64 d.id, .bool d.want, .int .i64 d.per, .int .i64 d.st, .int .i64 d.fails, .bool d.tried, .int .i64 d.left, .int .i64 d.bad, .bool wn, .int .i64 pr, .int .i64 ast, .slice da data.length dc]) := Fp.out.alloc _
  have Fa : Hid (HV (wm.alloc (.cells #[.int .i64 0, .int .i64 0, .bool false, .int .i64 0, .int .i64 0, .int .i64 0, .bool false, .int .i64 0, .int .i64 0] 24)) wm.heap.size [.int .i64 0, .int .i64 0, .bool false, .int .i64 0, .int .i64 0, .int .i64 0, .bool false, .int .i64 0, .int .i64 0]) := hv_at rfl
  have FX : Hid (Ext w (wm.alloc (.cells #[.int .i64 0, .int .i64 0, .bool false, .int .i64 0, .int .i64 0, .int .i64 0, .bool false, .int .i64 0, .int .i64 0] 24))) := FX.out.alloc _
  generalize (wm.alloc (.cells #[.int .i64 0, .int .i64 0, .bool false, .int .i64 0, .int .i64 0, .int .i64 0, .bool false, .int .i64 0, .int .i64 0] 24)) = wx2 at *
  generalize wm.heap.size = na at *
  have ltpc : np < wx2.heap.size := Fp.out.1
  have ltac : na < wx2.heap.size := Fa.out.1
  have Lc : Hid (w.heap.size ≤ wx2.heap.size) := FX.out.size
  have Fp : Hid (HV (wx2.alloc (.cells #[.int .i64 0, .int .i64 0, .bool false, .int .i64 0, .int .i64 0, .int .i64 0, .bool false, .int .i64 0, .int .i64 0] 24)) np [.int .i64 d.addr, .int .i64 d.id, .bool d.want, .int .i64 d.per, .int .i64 d.st, .int .i64 d.fails, .bool d.tried, .int .i64 d.left, .int .i64 d.bad, .bool wn, .int .i64 pr, .int .i64 ast, .slice da data.length dc]) := Fp.out.alloc _
  have Fa : Hid (HV (wx2.alloc (.cells #[.int .i64 0, .int .i64 0, .bool false, .int .i64 0, .int .i64 0, .int .i64 0, .bool false, .int .i64 0, .int .i64 0] 24)) na [.int .i64 0, .int .i64 0, .bool false, .int .i64 0, .int .i64 0, .int .i64 0, .bool false, .int .i64 0, .int .i64 0]) := Fa.out.alloc _
  have Fc : Hid (HV (wx2.alloc (.cells #[.int .i64 0, .int .i64 0, .bool false, .int .i64 0, .int .i64 0, .int .i64 0, .bool false, .int .i64 0, .int .i64 0] 24)) wx2.heap.size [.int .i64 0, .int .i64 0, .bool false, .int .i64 0, .int .i64 0, .int .i64 0, .bool false, .int .i64 0, .int .i64 0]) := hv_at rfl
  have FX : Hid (Ext w (wx2.alloc (.cells #[.int .i64 0, .int .i64 0, .bool false, .int .i64 0, .int .i64 0, .int .i64 0, .bool false, .int .i64 0, .int .i64 0] 24))) := FX.out.alloc _
  generalize (wx2.alloc (.cells #[.int .i64 0, .int .i64 0, .bool false, .int .i64 0, .int .i64 0, .int .i64 0, .bool false, .int .i64 0, .int .i64 0] 24)) = wx3 at *
  generalize wx2.heap.size = nc at *
  rw [← hna]
  have HNA : Hid (nc = na + 1) := hna
  clear hna
  go_upto_region 18 with fail
  have ltpt : np < wx3.heap.size := Fp.out.1
  have ltat : na < wx3.heap.size := Fa.out.1
  have ltct : nc < wx3.heap.size := Fc.out.1
  have Lt : Hid (w.heap.size ≤ wx3.heap.size) := FX.out.size
  have Fp : Hid (HV (wx3.alloc (.cells #[.int .i64 0, .int .i64 0, .slice none 0 0, .int .i64 0] 31)) np [.int .i64 d.addr, .int .i64 d.id, .bool d.want, .int .i64 d.per, .int .i64 d.st, .int .i64 d.fails, .bool d.tried, .int .i64 d.left, .int .i64 d.bad, .bool wn, .int .i64 pr, .int .i64 ast, .slice da data.length dc]) := Fp.out.alloc _
  have Fa : Hid (HV (wx3.alloc (.cells #[.int .i64 0, .int .i64 0, .slice none 0 0, .int .i64 0] 31)) na [.int .i64 0, .int .i64 0, .bool false, .int .i64 0, .int .i64 0, .int .i64 0, .bool false, .int .i64 0, .int .i64 0]) := Fa.out.alloc _
  have Fc : Hid (HV (wx3.alloc (.cells #[.int .i64 0, .int .i64 0, .slice none 0 0, .int .i64 0] 31)) nc [.int .i64 0, .int .i64 0, .bool false, .int .i64 0, .int .i64 0, .int .i64 0, .bool false, .int .i64 0, .int .i64 0]) := Fc.out.alloc _
  have Ft : Hid (HV (wx3.alloc (.cells #[.int .i64 0, .int .i64 0, .slice none 0 0, .int .i64 0] 31)) wx3.heap.size [.int .i64 0, .int .i64 0, .slice none 0 0, .int .i64 0]) := hv_at rfl
  have FX : Hid (Ext w (wx3.alloc (.cells #[.int .i64 0, .int .i64 0, .slice none 0 0, .int .i64 0] 31))) := FX.out.alloc _
  generalize (wx3.alloc (.cells #[.int .i64 0, .int .i64 0, .slice none 0 0, .int .i64 0] 31)) = wx4 at *
  generalize wx3.heap.size = nt at *
  have HS2 : Hid (∃ sd, (∀ W, Calls Try.prog 14 #[.agg #[.int .i64 d.addr, .int .i64 d.id, .bool d.want, .int .i64 d.per, .int .i64 d.st, .int .i64 d.fails, .bool d.tried, .int .i64 d.left, .int .i64 d.bad], .bool wn, .int .i64 pr] W fun e w' => e = .returned (.tuple #[.agg #[.int .i64 sd.addr, .int .i64 sd.id, .bool sd.want, .int .i64 sd.per, .int .i64 sd.st, .int .i64 sd.fails, .bool sd.tried, .int .i64 sd.left, .int .i64 sd.bad], .int .i64 sv]) ∧ Ext W w') ∧ (sv = 0 → okD d = true ∧ sd = setD d wn pr) ∧ (sv ≠ 0 → sd = zeroD)) := by
    have e1 := HBD.out
    have e2 := HSV.out
    have e3 := HOK.out
    have e4 := HPO.out
    cases okd
    · have : sv = 1 := by rw [e2, e1]; cases po <;> rfl
      subst this
      exact ⟨zeroD, fun W => setdr_bad d wn pr (.inl e3) W, fun h => by omega, fun _ => rfl⟩
    · cases po
      · have : sv = 1 := e2
        subst this
        exact ⟨zeroD, fun W => setdr_bad d wn pr (.inr e4) W, fun h => by omega, fun _ => rfl⟩
      · have : sv = 0 := by rw [e2, e1]; rfl
        subst this
        exact ⟨setD d wn pr, fun W => setdr_good d wn pr e3 e4 W, fun _ => ⟨e3, rfl⟩, fun h => absurd rfl h⟩
  obtain ⟨sd, HS2, HS0, HS1⟩ := HS2.out
  have HSC : Hid (∀ W, Calls Try.prog 14 #[.agg #[.int .i64 d.addr, .int .i64 d.id, .bool d.want, .int .i64 d.per, .int .i64 d.st, .int .i64 d.fails, .bool d.tried, .int .i64 d.left, .int .i64 d.bad], .bool wn, .int .i64 pr] W fun e w' => e = .returned (.tuple #[.agg #[.int .i64 sd.addr, .int .i64 sd.id, .bool sd.want, .int .i64 sd.per, .int .i64 sd.st, .int .i64 sd.fails, .bool sd.tried, .int .i64 sd.left, .int .i64 sd.bad], .int .i64 sv]) ∧ Ext W w') := HS2
  have HSA : Hid (sv = 0 → okD d = true ∧ sd = setD d wn pr) := HS0
  have HSB : Hid (sv ≠ 0 → sd = zeroD) := HS1
  clear HS2 HS0 HS1 HSV HPO
  go_upto_if 64 with fail
  obtain ⟨sb, hsb, HSBB⟩ : ∃ sb, (sv == 0) = sb ∧ Hid ((sv == 0) = sb) := ⟨_, rfl, rfl⟩
  rw [hsb]
  clear hsb
  go_cut [9] from 29 to 231 (fun v9 wx => v9 = .pointer (some ⟨na, 0, none⟩) ∧ Hid (HV wx np [.int .i64 d.addr, .int .i64 d.id, .bool d.want, .int .i64 d.per, .int .i64 d.st, .int .i64 d.fails, .bool d.tried, .int .i64 d.left, .int .i64 d.bad, .bool wn, .int .i64 pr, .int .i64 ast, .slice da data.length dc] ∧ HV wx na [.int .i64 sd.addr, .int .i64 sd.id, .bool sd.want, .int .i64 sd.per, .int .i64 sd.st, .int .i64 sd.fails, .bool sd.tried, .int .i64 sd.left, .int .i64 sd.bad] ∧ HV wx nc [.int .i64 0, .int .i64 0, .bool false, .int .i64 0, .int .i64 0, .int .i64 0, .bool false, .int .i64 0, .int .i64 0] ∧ HV wx nt [.int .i64 0, .int .i64 0, .slice none 0 0, .int .i64 0] ∧ Ext w wx))
  case first =>
    have hsb := HSBB.out
    cases sb
    · have hz := HSB.out (by intro h; rw [h] at hsb; cases hsb)
      subst hz
      clear hsb
      go_wp2_with fail
      go_meet
      exact ⟨rfl, Fp.out, Fa.out, Fc.out, Ft.out, FX.out⟩
    · have hz := HSA.out (by simpa using hsb)
      obtain ⟨hok, rfl⟩ := hz
      clear hsb
      have HSR : Hid (∀ W, Calls Try.prog 15 #[.agg #[.int .i64 d.addr, .int .i64 d.id, .bool d.want, .int .i64 d.per, .int .i64 d.st, .int .i64 d.fails, .bool d.tried, .int .i64 d.left, .int .i64 d.bad], .bool wn, .int .i64 pr] W fun e w' => e = .returned (drv (setD d wn pr)) ∧ Ext W w') := refset_any d (okD_st hok) wn pr
      clear hok
      generalize setD d wn pr = sd at *
      have qp0 : wx4.cell? ⟨np, 0, none⟩ = some (.int .i64 d.addr) := Fp.out.c 0 rfl
      have qp1 : wx4.cell? ⟨np, 1, none⟩ = some (.int .i64 d.id) := Fp.out.c 1 rfl
      have qp2 : wx4.cell? ⟨np, 2, none⟩ = some (.bool d.want) := Fp.out.c 2 rfl
      have qp3 : wx4.cell? ⟨np, 3, none⟩ = some (.int .i64 d.per) := Fp.out.c 3 rfl
      have qp4 : wx4.cell? ⟨np, 4, none⟩ = some (.int .i64 d.st) := Fp.out.c 4 rfl
      have qp5 : wx4.cell? ⟨np, 5, none⟩ = some (.int .i64 d.fails) := Fp.out.c 5 rfl
      have qp6 : wx4.cell? ⟨np, 6, none⟩ = some (.bool d.tried) := Fp.out.c 6 rfl
      have qp7 : wx4.cell? ⟨np, 7, none⟩ = some (.int .i64 d.left) := Fp.out.c 7 rfl
      have qp8 : wx4.cell? ⟨np, 8, none⟩ = some (.int .i64 d.bad) := Fp.out.c 8 rfl
      have qp9 : wx4.cell? ⟨np, 9, none⟩ = some (.bool wn) := Fp.out.c 9 rfl
      have qp10 : wx4.cell? ⟨np, 10, none⟩ = some (.int .i64 pr) := Fp.out.c 10 rfl
      go_wp2_with (go_at_call 15; refine (HSR.out _).mono ?_; rintro e wq1 ⟨rfl, xq1⟩; (try dsimp only); have ka0 : wq1.cell? ⟨na, 0, none⟩ = some (.int .i64 0) := (Fa.out.ext xq1).c 0 rfl; have za0 : wq1.frozen? ⟨na, 0, none⟩ = false := (Fa.out.ext xq1).f 0 rfl; have ka1 : wq1.cell? ⟨na, 1, none⟩ = some (.int .i64 0) := (Fa.out.ext xq1).c 1 rfl; have za1 : wq1.frozen? ⟨na, 1, none⟩ = false := (Fa.out.ext xq1).f 1 rfl; have ka2 : wq1.cell? ⟨na, 2, none⟩ = some (.bool false) := (Fa.out.ext xq1).c 2 rfl; have za2 : wq1.frozen? ⟨na, 2, none⟩ = false := (Fa.out.ext xq1).f 2 rfl; have ka3 : wq1.cell? ⟨na, 3, none⟩ = some (.int .i64 0) := (Fa.out.ext xq1).c 3 rfl; have za3 : wq1.frozen? ⟨na, 3, none⟩ = false := (Fa.out.ext xq1).f 3 rfl; have ka4 : wq1.cell? ⟨na, 4, none⟩ = some (.int .i64 0) := (Fa.out.ext xq1).c 4 rfl; have za4 : wq1.frozen? ⟨na, 4, none⟩ = false := (Fa.out.ext xq1).f 4 rfl; have ka5 : wq1.cell? ⟨na, 5, none⟩ = some (.int .i64 0) := (Fa.out.ext xq1).c 5 rfl; have za5 : wq1.frozen? ⟨na, 5, none⟩ = false := (Fa.out.ext xq1).f 5 rfl; have ka6 : wq1.cell? ⟨na, 6, none⟩ = some (.bool false) := (Fa.out.ext xq1).c 6 rfl; have za6 : wq1.frozen? ⟨na, 6, none⟩ = false := (Fa.out.ext xq1).f 6 rfl; have ka7 : wq1.cell? ⟨na, 7, none⟩ = some (.int .i64 0) := (Fa.out.ext xq1).c 7 rfl; have za7 : wq1.frozen? ⟨na, 7, none⟩ = false := (Fa.out.ext xq1).f 7 rfl; have ka8 : wq1.cell? ⟨na, 8, none⟩ = some (.int .i64 0) := (Fa.out.ext xq1).c 8 rfl; have za8 : wq1.frozen? ⟨na, 8, none⟩ = false := (Fa.out.ext xq1).f 8 rfl)
      go_meet
      have Fp : Hid (HV wq1 np [.int .i64 d.addr, .int .i64 d.id, .bool d.want, .int .i64 d.per, .int .i64 d.st, .int .i64 d.fails, .bool d.tried, .int .i64 d.left, .int .i64 d.bad, .bool wn, .int .i64 pr, .int .i64 ast, .slice da data.length dc]) := Fp.out.ext xq1
      have Fa : Hid (HV wq1 na [.int .i64 0, .int .i64 0, .bool false, .int .i64 0, .int .i64 0, .int .i64 0, .bool false, .int .i64 0, .int .i64 0]) := Fa.out.ext xq1
      have Fc : Hid (HV wq1 nc [.int .i64 0, .int .i64 0, .bool false, .int .i64 0, .int .i64 0, .int .i64 0, .bool false, .int .i64 0, .int .i64 0]) := Fc.out.ext xq1
      have Ft : Hid (HV wq1 nt [.int .i64 0, .int .i64 0, .slice none 0 0, .int .i64 0]) := Ft.out.ext xq1
      have FX : Hid (Ext w wq1) := FX.out.trans xq1
      clear qp0 qp1 qp2 qp3 qp4 qp5 qp6 qp7 qp8 qp9 qp10 xq1 HSR ka0 ka1 ka2 ka3 ka4 ka5 ka6 ka7 ka8 za0 za1 za2 za3 za4 za5 za6 za7 za8
      have Fp : Hid (HV (((((((((wq1.setCell ⟨na, 0, none⟩ (.int .i64 sd.addr)).setCell ⟨na, 1, none⟩ (.int .i64 sd.id)).setCell ⟨na, 2, none⟩ (.bool sd.want)).setCell ⟨na, 3, none⟩ (.int .i64 sd.per)).setCell ⟨na, 4, none⟩ (.int .i64 sd.st)).setCell ⟨na, 5, none⟩ (.int .i64 sd.fails)).setCell ⟨na, 6, none⟩ (.bool sd.tried)).setCell ⟨na, 7, none⟩ (.int .i64 sd.left)).setCell ⟨na, 8, none⟩ (.int .i64 sd.bad)) np [.int .i64 d.addr, .int .i64 d.id, .bool d.want, .int .i64 d.per, .int .i64 d.st, .int .i64 d.fails, .bool d.tried, .int .i64 d.left, .int .i64 d.bad, .bool wn, .int .i64 pr, .int .i64 ast, .slice da data.length dc]) := (((((((((Fp.out.far (by omega)).far (by omega)).far (by omega)).far (by omega)).far (by omega)).far (by omega)).far (by omega)).far (by omega)).far (by omega))
      have Fc : Hid (HV (((((((((wq1.setCell ⟨na, 0, none⟩ (.int .i64 sd.addr)).setCell ⟨na, 1, none⟩ (.int .i64 sd.id)).setCell ⟨na, 2, none⟩ (.bool sd.want)).setCell ⟨na, 3, none⟩ (.int .i64 sd.per)).setCell ⟨na, 4, none⟩ (.int .i64 sd.st)).setCell ⟨na, 5, none⟩ (.int .i64 sd.fails)).setCell ⟨na, 6, none⟩ (.bool sd.tried)).setCell ⟨na, 7, none⟩ (.int .i64 sd.left)).setCell ⟨na, 8, none⟩ (.int .i64 sd.bad)) nc [.int .i64 0, .int .i64 0, .bool false, .int .i64 0, .int .i64 0, .int .i64 0, .bool false, .int .i64 0, .int .i64 0]) := (((((((((Fc.out.far (by omega)).far (by omega)).far (by omega)).far (by omega)).far (by omega)).far (by omega)).far (by omega)).far (by omega)).far (by omega))
      have Ft : Hid (HV (((((((((wq1.setCell ⟨na, 0, none⟩ (.int .i64 sd.addr)).setCell ⟨na, 1, none⟩ (.int .i64 sd.id)).setCell ⟨na, 2, none⟩ (.bool sd.want)).setCell ⟨na, 3, none⟩ (.int .i64 sd.per)).setCell ⟨na, 4, none⟩ (.int .i64 sd.st)).setCell ⟨na, 5, none⟩ (.int .i64 sd.fails)).setCell ⟨na, 6, none⟩ (.bool sd.tried)).setCell ⟨na, 7, none⟩ (.int .i64 sd.left)).setCell ⟨na, 8, none⟩ (.int .i64 sd.bad)) nt [.int .i64 0, .int .i64 0, .slice none 0 0, .int .i64 0]) := (((((((((Ft.out.far (by omega)).far (by omega)).far (by omega)).far (by omega)).far (by omega)).far (by omega)).far (by omega)).far (by omega)).far (by omega))
      have Fa : Hid (HV (((((((((wq1.setCell ⟨na, 0, none⟩ (.int .i64 sd.addr)).setCell ⟨na, 1, none⟩ (.int .i64 sd.id)).setCell ⟨na, 2, none⟩ (.bool sd.want)).setCell ⟨na, 3, none⟩ (.int .i64 sd.per)).setCell ⟨na, 4, none⟩ (.int .i64 sd.st)).setCell ⟨na, 5, none⟩ (.int .i64 sd.fails)).setCell ⟨na, 6, none⟩ (.bool sd.tried)).setCell ⟨na, 7, none⟩ (.int .i64 sd.left)).setCell ⟨na, 8, none⟩ (.int .i64 sd.bad)) na [.int .i64 sd.addr, .int .i64 sd.id, .bool sd.want, .int .i64 sd.per, .int .i64 sd.st, .int .i64 sd.fails, .bool sd.tried, .int .i64 sd.left, .int .i64 sd.bad]) := (((((((((Fa.out.set 0 (.int .i64 sd.addr)).set 1 (.int .i64 sd.id)).set 2 (.bool sd.want)).set 3 (.int .i64 sd.per)).set 4 (.int .i64 sd.st)).set 5 (.int .i64 sd.fails)).set 6 (.bool sd.tried)).set 7 (.int .i64 sd.left)).set 8 (.int .i64 sd.bad))
      have FX : Hid (Ext w (((((((((wq1.setCell ⟨na, 0, none⟩ (.int .i64 sd.addr)).setCell ⟨na, 1, none⟩ (.int .i64 sd.id)).setCell ⟨na, 2, none⟩ (.bool sd.want)).setCell ⟨na, 3, none⟩ (.int .i64 sd.per)).setCell ⟨na, 4, none⟩ (.int .i64 sd.st)).setCell ⟨na, 5, none⟩ (.int .i64 sd.fails)).setCell ⟨na, 6, none⟩ (.bool sd.tried)).setCell ⟨na, 7, none⟩ (.int .i64 sd.left)).setCell ⟨na, 8, none⟩ (.int .i64 sd.bad))) := (((((((((FX.out.set (p := ⟨na, 0, none⟩) La.out (.int .i64 sd.addr)).set (p := ⟨na, 1, none⟩) La.out (.int .i64 sd.id)).set (p := ⟨na, 2, none⟩) La.out (.bool sd.want)).set (p := ⟨na, 3, none⟩) La.out (.int .i64 sd.per)).set (p := ⟨na, 4, none⟩) La.out (.int .i64 sd.st)).set (p := ⟨na, 5, none⟩) La.out (.int .i64 sd.fails)).set (p := ⟨na, 6, none⟩) La.out (.bool sd.tried)).set (p := ⟨na, 7, none⟩) La.out (.int .i64 sd.left)).set (p := ⟨na, 8, none⟩) La.out (.int .i64 sd.bad))
      generalize (((((((((wq1.setCell ⟨na, 0, none⟩ (.int .i64 sd.addr)).setCell ⟨na, 1, none⟩ (.int .i64 sd.id)).setCell ⟨na, 2, none⟩ (.bool sd.want)).setCell ⟨na, 3, none⟩ (.int .i64 sd.per)).setCell ⟨na, 4, none⟩ (.int .i64 sd.st)).setCell ⟨na, 5, none⟩ (.int .i64 sd.fails)).setCell ⟨na, 6, none⟩ (.bool sd.tried)).setCell ⟨na, 7, none⟩ (.int .i64 sd.left)).setCell ⟨na, 8, none⟩ (.int .i64 sd.bad)) = wx25 at *
      exact ⟨rfl, Fp.out, Fa.out, Fc.out, Ft.out, FX.out⟩
  case rest =>
    obtain ⟨rfl, hC⟩ := hcut
    clear Fp Fa Fc Ft FX
    obtain ⟨gp, ga, gc, gt, gX⟩ := hC.out
    have Fp : Hid (HV wc np [.int .i64 d.addr, .int .i64 d.id, .bool d.want, .int .i64 d.per, .int .i64 d.st, .int .i64 d.fails, .bool d.tried, .int .i64 d.left, .int .i64 d.bad, .bool wn, .int .i64 pr, .int .i64 ast, .slice da data.length dc]) := gp
    have Fa : Hid (HV wc na [.int .i64 sd.addr, .int .i64 sd.id, .bool sd.want, .int .i64 sd.per, .int .i64 sd.st, .int .i64 sd.fails, .bool sd.tried, .int .i64 sd.left, .int .i64 sd.bad]) := ga
    have Fc : Hid (HV wc nc [.int .i64 0, .int .i64 0, .bool false, .int .i64 0, .int .i64 0, .int .i64 0, .bool false, .int .i64 0, .int .i64 0]) := gc
    have Ft : Hid (HV wc nt [.int .i64 0, .int .i64 0, .slice none 0 0, .int .i64 0]) := gt
    have FX : Hid (Ext w wc) := gX
    clear hC gp ga gc gt gX
    generalize wc = wv5 at *
    rename_i KR hKR
    refine hKR _ _ ?_
    exact dexact1 w wv5 d sd okd wn bd sv pr ast data da dc np na nc nt _ _ rfl rfl _ _ _ _ _ _ _ _ _ _ _ _ _ _ _ _ _ _ _ _ _ _ _ _ _ _ _ _ _ _ _ _ _ _ _ _ _ _ _ _ _ _ _ _ _ _ _ _ _ _ _ _ _ _ _ _ _ _ _ _ _ _ _ _ _ _ _ _ _ _ _ _ _ _ _ _ _ _ _ _ _ _ _ _ _ _ _ _ _ _ _ _ _ _ _ _ _ _ _ _ _ _ _ _ _ _ _ _ _ _ _ _ _ _ _ _ _ _ _ _ _ _ _ _ _ _ _ _ _ _ _ _ _ _ _ _ _ _ _ _ _ _ _ _ _ _ _ _ _ _ _ _ _ _ _ _ _ _ _ _ _ _ _ _ _ _ _ _ _ _ _ _ _ _ _ _ _ _ _ _ _ _ _ _ _ _ _ _ _ _ _ _ _ _ _ _ _ _ _ _ _ _ _ _ _ _ _ _ _ _ _ _ _ _ _ _ _ _ _ _ _ _ QQ hQ ltpa ltac ltct HNU HSC HOK HBD HRD0 HRD H400 Lc Lt Fp Fa Fc Ft FX
end Go.Proofs.Ytdfhhfpfnkjbnaa
