/- DrvBus: a round of its first loop. -/
import Derived.Test.YtdfhhfpfnkjbnaaBn4
namespace Go.Proofs.Ytdfhhfpfnkjbnaa
open Go.RowKit Go.Conc
set_option maxRecDepth 20000 in
set_option maxHeartbeats 16000000 in
theorem busround (w wr : World) (y : BA) (a : Option Addr) (L all : List Raw) (c : Nat) (N : Int) (d : Dr) (per i lo np nd : Nat) (bd cd : Code) (hbd : Try.f7.body = some bd) (hcd : cd = rgt [()] (inn1 (inn1 (rgt [()] (lft (rgt [(), (), (), (), (), (), (), ()] bd)))))) (va9 : Value) (z0 z2 z3 z5 z7 z8 z11 z12 z13 z14 z15 z16 z17 z18 z19 z20 z21 z22 z23 z24 z25 z26 z27 z28 z29 z30 z31 z32 z33 z34 z35 z36 z37 z38 z39 z40 z41 z42 z43 z44 z45 z46 z47 z48 z49 z50 z51 z52 z53 z54 z55 z56 z57 z58 z59 z60 z61 z62 z63 z64 z65 z66 z67 z68 z69 z70 z71 z72 z73 z74 z75 z76 z77 z78 z79 z80 z81 z82 z83 z84 z85 z86 z87 z88 z89 z90 z91 z92 z93 z94 z95 z96 z97 z98 z99 z100 z101 z102 z103 z104 z105 z106 z107 z108 z109 z110 z111 z112 z113 z114 z115 z116 z117 z118 z119 z120 z121 z122 z123 z124 z125 z126 z127 z128 z129 z130 z131 z132 z133 z134 z135 z136 z137 z138 z139 z140 z141 z142 z143 z144 z145 z146 z147 z148 z149 z150 z151 z152 z153 z154 z155 z156 z157 z158 z159 z160 z161 z162 z163 z164 z165 z166 z167 z168 z169 z170 z171 z172 z173 z174 z175 z176 z177 z178 z179 z180 z181 z182 z183 z184 z185 z186 z187 z188 z189 z190 z191 z192 z193 z194 z195 z196 z197 z198 z199 z200 z201 z202 z203 z204 z205 z206 z207 z208 z209 z210 z211 z212 z213 z214 z215 z216 z217 z218 z219 z220 z221 z222 z223 z224 z225 z226 z227 z228 z229 z230 z231 z232 z233 z234 z235 z236 z237 z238 z239 z240 z241 z242 : Value) (QQ : Exit → Act → World → Prop)
    (HNU : Hid (∀ v w', Calls Try.prog 11 #[.int .i64 v] w' fun e w'' => e = .returned (.int .i64 v) ∧ w'' = w'))
    (hQ : ∀ (y11 y12 y13 y14 y15 y16 y17 y18 y19 y87 y88 y89 y90 y91 y92 y93 y94 y95 y96 y97 y98 y99 y100 y101 y102 y103 y104 y105 y106 y107 y108 y109 y110 y111 y112 y113 y114 y115 y116 y117 y118 y119 y120 y121 y122 y123 y124 y125 y126 y127 y128 y129 y130 y131 y132 y133 y134 y135 y136 y137 y138 y139 y140 y141 y142 y143 y144 y145 y146 vi vb : Value) (D : Dr) (tl : List Raw) (w9 : World), vi = .int .i64 ((i + 1 : Nat) : Int) → Hid (Lp w w9 y lo np nd a c N L per (i + 1) D (all ++ tl) vb) → QQ Exit.normal { tmps := #[z0, .pointer (some ⟨np, 0, none⟩), z2, z3, .pointer (some ⟨y.b, 0, none⟩), z5, .pointer (some ⟨nd, 0, none⟩), z7, z8, vb, vi, y11, y12, y13, y14, y15, y16, y17, y18, y19, z20, z21, z22, z23, z24, z25, z26, z27, z28, z29, z30, z31, z32, z33, z34, z35, z36, z37, z38, z39, z40, z41, z42, z43, z44, z45, z46, z47, z48, z49, z50, z51, z52, z53, z54, z55, z56, z57, z58, z59, z60, z61, z62, z63, z64, z65, z66, z67, z68, z69, z70, z71, z72, z73, z74, z75, z76, z77, z78, z79, z80, z81, z82, z83, z84, z85, z86, y87, y88, y89, y90, y91, y92, y93, y94, y95, y96, y97, y98, y99, y100, y101, y102, y103, y104, y105, y106, y107, y108, y109, y110, y111, y112, y113, y114, y115, y116, y117, y118, y119, y120, y121, y122, y123, y124, y125, y126, y127, y128, y129, y130, y131, y132, y133, y134, y135, y136, y137, y138, y139, y140, y141, y142, y143, y144, y145, y146, z147, z148, z149, z150, z151, z152, z153, z154, z155, z156, z157, z158, z159, z160, z161, z162, z163, z164, z165, z166, z167, z168, z169, z170, z171, z172, z173, z174, z175, z176, z177, z178, z179, z180, z181, z182, z183, z184, z185, z186, z187, z188, z189, z190, z191, z192, z193, z194, z195, z196, z197, z198, z199, z200, z201, z202, z203, z204, z205, z206, z207, z208, z209, z210, z211, z212, z213, z214, z215, z216, z217, z218, z219, z220, z221, z222, z223, z224, z225, z226, z227, z228, z229, z230, z231, z232, z233, z234, z235, z236, z237, z238, z239, z240, z241, z242], defers := [] } w9)
    (hlt : i < 60) (HL : Hid (Lp w wr y lo np nd a c N L per i d all va9)) (HP : Hid (1 ≤ per ∧ per ≤ 5)) (HL3 : Hid (0 < L.length ∧ L.length ≤ 300)) (HRA : Hid (∀ r ∈ L, okR r = true)) (HLO : Hid (np < lo ∧ lo ≤ nd ∧ w.heap.size ≤ nd)) (HFP : Hid (¬ FB y np)) :
    Code.wp Try.prog cd QQ { tmps := #[z0, .pointer (some ⟨np, 0, none⟩), z2, z3, .pointer (some ⟨y.b, 0, none⟩), z5, .pointer (some ⟨nd, 0, none⟩), z7, z8, va9, .int .i64 i, z11, z12, z13, z14, z15, z16, z17, z18, z19, z20, z21, z22, z23, z24, z25, z26, z27, z28, z29, z30, z31, z32, z33, z34, z35, z36, z37, z38, z39, z40, z41, z42, z43, z44, z45, z46, z47, z48, z49, z50, z51, z52, z53, z54, z55, z56, z57, z58, z59, z60, z61, z62, z63, z64, z65, z66, z67, z68, z69, z70, z71, z72, z73, z74, z75, z76, z77, z78, z79, z80, z81, z82, z83, z84, z85, z86, z87, z88, z89, z90, z91, z92, z93, z94, z95, z96, z97, z98, z99, z100, z101, z102, z103, z104, z105, z106, z107, z108, z109, z110, z111, z112, z113, z114, z115, z116, z117, z118, z119, z120, z121, z122, z123, z124, z125, z126, z127, z128, z129, z130, z131, z132, z133, z134, z135, z136, z137, z138, z139, z140, z141, z142, z143, z144, z145, z146, z147, z148, z149, z150, z151, z152, z153, z154, z155, z156, z157, z158, z159, z160, z161, z162, z163, z164, z165, z166, z167, z168, z169, z170, z171, z172, z173, z174, z175, z176, z177, z178, z179, z180, z181, z182, z183, z184, z185, z186, z187, z188, z189, z190, z191, z192, z193, z194, z195, z196, z197, z198, z199, z200, z201, z202, z203, z204, z205, z206, z207, z208, z209, z210, z211, z212, z213, z214, z215, z216, z217, z218, z219, z220, z221, z222, z223, z224, z225, z226, z227, z228, z229, z230, z231, z232, z233, z234, z235, z236, z237, z238, z239, z240, z241, z242], defers := [] } wr := by
  obtain ⟨i0, hi0, hz0, hz1, hz2⟩ := dinfo
  subst hcd
  simp only [Try.f7] at hbd
  injection hbd with hbd
  subst hbd
  simp only [rgt, lft, inn1]
  have hlt' : (i : Int) < 60 := by omega
  obtain ⟨⟨s, v, hb, hs, J⟩, fd, fp, row⟩ := HL.out
  have HB : Hid (Hb w wr y s lo) := hb
  have HS : Hid (B1 s v) := hs
  have HJ : Hid (Js L per i d v all) := js_any HP.out HL3.out.1 HRA.out J
  have HA : Hid (d.addr = 16 ∧ v.addr = 16 ∧ all.length ≤ 2 * i) := ⟨J.ad, jn_addr J, jn_len J HP.out.1⟩
  have H3 : Hid (i = 3 → d.st = 4) := jn_three J
  have Fd : Hid (HV wr nd [.int .i64 d.addr, .int .i64 d.id, .bool d.want, .int .i64 d.per, .int .i64 d.st, .int .i64 d.fails, .bool d.tried, .int .i64 d.left, .int .i64 d.bad]) := fd
  have Fp : Hid (HV wr np [.slice a L.length c, .int .i64 N]) := fp
  have HR : Hid (wr.ownsRow (nd + 1) 72 4 va9 all.length (rvs all)) := row
  have HV2 : Hid (nd < wr.heap.size) := fd.1
  clear hb hs J fd fp row HL
  go_upto_region 13 with fail
  go_cut [97] from 87 to 146 (fun v97 wx => v97 = .bool false ∧ Hid (wr = wx))
  case first =>
    by_cases h3 : i = 3
    · have st4 : d.st = 4 := H3.out h3
      have b3 : ((i : Int) == 3) = true := by rw [h3]; rfl
      have qd4 : wr.cell? ⟨nd, 4, none⟩ = some (.int .i64 4) := by have h := Fd.out.c 4 (v := .int .i64 d.st) rfl; rw [st4] at h; exact h
      clear h3 st4
      go_wp2_with fail
      go_meet
      exact ⟨rfl, rfl⟩
    · have b3 : ((i : Int) == 3) = false := beq_eq_false_iff_ne.2 (by omega)
      clear h3
      go_wp2_with fail
      go_meet
      exact ⟨rfl, rfl⟩
  case rest =>
    obtain ⟨rfl, hC⟩ := hcut
    have hC2 : wr = wc := hC.out
    clear hC
    subst hC2
    have HX : Hid (∀ W, Calls Try.prog 9 #[.agg #[.int .i64 d.addr, .int .i64 d.id, .bool d.want, .int .i64 d.per, .int .i64 d.st, .int .i64 d.fails, .bool d.tried, .int .i64 d.left, .int .i64 d.bad]] W fun e w' => ∃ ta tc, e = .returned (.tuple #[.agg #[.int .i64 16, .int .i64 (regN d : Int), .slice ta (wrN d).length tc, .int .i64 (rdN d : Int)], .bool true, .int .i64 0]) ∧ Hid (BR w' ta (wrN d) ∧ ∀ k off, 0 < (wrN d).length → ta = some ⟨k, off, none⟩ → W.heap.size ≤ k) ∧ Ext W w') := fun W => bn_next HJ.out HA.out.1 W
    have qd0 : wr.cell? ⟨nd, 0, none⟩ = some (.int .i64 d.addr) := Fd.out.c 0 rfl
    have qd1 : wr.cell? ⟨nd, 1, none⟩ = some (.int .i64 d.id) := Fd.out.c 1 rfl
    have qd2 : wr.cell? ⟨nd, 2, none⟩ = some (.bool d.want) := Fd.out.c 2 rfl
    have qd3 : wr.cell? ⟨nd, 3, none⟩ = some (.int .i64 d.per) := Fd.out.c 3 rfl
    have qd4 : wr.cell? ⟨nd, 4, none⟩ = some (.int .i64 d.st) := Fd.out.c 4 rfl
    have qd5 : wr.cell? ⟨nd, 5, none⟩ = some (.int .i64 d.fails) := Fd.out.c 5 rfl
    have qd6 : wr.cell? ⟨nd, 6, none⟩ = some (.bool d.tried) := Fd.out.c 6 rfl
    have qd7 : wr.cell? ⟨nd, 7, none⟩ = some (.int .i64 d.left) := Fd.out.c 7 rfl
    have qd8 : wr.cell? ⟨nd, 8, none⟩ = some (.int .i64 d.bad) := Fd.out.c 8 rfl
    go_upto_region 16 with (go_at_call 9; refine (HX.out _).mono ?_; rintro e w1 ⟨ta, tc, rfl, ht, x1⟩)
    have x2 : Ext wr (w1.alloc (.cells #[.int .i64 16, .int .i64 (regN d : Int), .slice ta (wrN d).length tc, .int .i64 (rdN d : Int)] 31)) := x1.alloc _
    have Fd : Hid (HV (w1.alloc (.cells #[.int .i64 16, .int .i64 (regN d : Int), .slice ta (wrN d).length tc, .int .i64 (rdN d : Int)] 31)) nd [.int .i64 d.addr, .int .i64 d.id, .bool d.want, .int .i64 d.per, .int .i64 d.st, .int .i64 d.fails, .bool d.tried, .int .i64 d.left, .int .i64 d.bad]) := Fd.out.ext x2
    have Fp : Hid (HV (w1.alloc (.cells #[.int .i64 16, .int .i64 (regN d : Int), .slice ta (wrN d).length tc, .int .i64 (rdN d : Int)] 31)) np [.slice a L.length c, .int .i64 N]) := Fp.out.ext x2
    have Ft : Hid (HV (w1.alloc (.cells #[.int .i64 16, .int .i64 (regN d : Int), .slice ta (wrN d).length tc, .int .i64 (rdN d : Int)] 31)) w1.heap.size [.int .i64 16, .int .i64 (regN d : Int), .slice ta (wrN d).length tc, .int .i64 (rdN d : Int)]) := hv_at rfl
    have HR : Hid ((w1.alloc (.cells #[.int .i64 16, .int .i64 (regN d : Int), .slice ta (wrN d).length tc, .int .i64 (rdN d : Int)] 31)).ownsRow (nd + 1) 72 4 va9 all.length (rvs all)) := row_ext HR.out x2
    have HT : Hid (BR (w1.alloc (.cells #[.int .i64 16, .int .i64 (regN d : Int), .slice ta (wrN d).length tc, .int .i64 (rdN d : Int)] 31)) ta (wrN d) ∧ ∀ k off, 0 < (wrN d).length → ta = some ⟨k, off, none⟩ → lo ≤ k) := ⟨ht.out.1.ext ((Ext.refl w1).alloc _), fun k off h0 ea => Nat.le_trans HB.out.s (ht.out.2 k off h0 ea)⟩
    have HNT : Hid (nd < w1.heap.size ∧ lo ≤ w1.heap.size) := ⟨by have := HV2.out; have := x1.size; omega, by have := HB.out.s; have := x1.size; omega⟩
    have HB : Hid (Hb w (w1.alloc (.cells #[.int .i64 16, .int .i64 (regN d : Int), .slice ta (wrN d).length tc, .int .i64 (rdN d : Int)] 31)) y s lo) := HB.out.ext x2
    generalize (w1.alloc (.cells #[.int .i64 16, .int .i64 (regN d : Int), .slice ta (wrN d).length tc, .int .i64 (rdN d : Int)] 31)) = w2 at *
    generalize w1.heap.size = nt at *
    clear x1 x2 ht HX HV2 qd0 qd1 qd2 qd3 qd4 qd5 qd6 qd7 qd8
    have HDO : Hid (Calls Try.prog 27 #[.pointer (some ⟨y.b, 0, none⟩), .agg #[.int .i64 16, .int .i64 (regN d : Int), .slice ta (wrN d).length tc, .int .i64 (rdN d : Int)]] w2 fun e w' => ∃ ra rc s2, e = .returned (.tuple #[.agg #[.int .i64 1, .slice ra (ansB d v).length rc], .int .i64 0]) ∧ Hid ((ansB d v).length ≤ rc ∧ RdY w' w2.heap.size ra (ansB d v)) ∧ Hid (B1 s2 (v.does (regN d) (wrN d) (rdN d))) ∧ Hid (Bd y s2 w2 w')) := bn_do HJ.out HA.out.2.1 HB.out HS.out HT.out.1 HT.out.2
    go_upto_region 18 with (go_at_call 11; refine (HNU.out _ _).mono ?_; rintro e wx ⟨rfl, hwx⟩; have hwy := hwx.symm; clear hwx; subst hwy)
    have qt0 : w2.cell? ⟨nt, 0, none⟩ = some (.int .i64 16) := Ft.out.c 0 rfl
    have qt1 : w2.cell? ⟨nt, 1, none⟩ = some (.int .i64 (regN d : Int)) := Ft.out.c 1 rfl
    have qt2 : w2.cell? ⟨nt, 2, none⟩ = some (.slice ta (wrN d).length tc) := Ft.out.c 2 rfl
    have qt3 : w2.cell? ⟨nt, 3, none⟩ = some (.int .i64 (rdN d : Int)) := Ft.out.c 3 rfl
    go_upto_region 19 with (go_at_call 27; refine HDO.out.mono ?_; rintro e w3 ⟨ra, rc, s2, rfl, hq, hs2, hBd⟩)
    have x4 : Ext w3 (w3.alloc (.cells #[.int .i64 1, .slice ra (ansB d v).length rc] 27)) := (Ext.refl w3).alloc _
    have HNA : Hid (nd < w3.heap.size) := Nat.lt_of_lt_of_le Fd.out.1 hBd.out.2.size
    have Fd : Hid (HV (w3.alloc (.cells #[.int .i64 1, .slice ra (ansB d v).length rc] 27)) nd [.int .i64 d.addr, .int .i64 d.id, .bool d.want, .int .i64 d.per, .int .i64 d.st, .int .i64 d.fails, .bool d.tried, .int .i64 d.left, .int .i64 d.bad]) := (HB.out.hv hBd.out Fd.out (.inr HLO.out.2.1)).ext x4
    have Fp : Hid (HV (w3.alloc (.cells #[.int .i64 1, .slice ra (ansB d v).length rc] 27)) np [.slice a L.length c, .int .i64 N]) := (Fp.out.tn hBd.out.2 HFP.out).ext x4
    have Fa : Hid (HV (w3.alloc (.cells #[.int .i64 1, .slice ra (ansB d v).length rc] 27)) w3.heap.size [.int .i64 1, .slice ra (ansB d v).length rc]) := hv_at rfl
    have HR : Hid ((w3.alloc (.cells #[.int .i64 1, .slice ra (ansB d v).length rc] 27)).ownsRow (nd + 1) 72 4 va9 all.length (rvs all)) := row_ext (row_tn HR.out hBd.out.2 (fun k h1 _ o => by have := HB.out.g k o; have := HLO.out.2.1; omega)) x4
    have HQ : Hid ((ansB d v).length ≤ rc ∧ RdY (w3.alloc (.cells #[.int .i64 1, .slice ra (ansB d v).length rc] 27)) 0 ra (ansB d v)) := ⟨hq.out.1, (hq.out.2.mono (Nat.zero_le _)).ext x4⟩
    have HB : Hid (Hb w (w3.alloc (.cells #[.int .i64 1, .slice ra (ansB d v).length rc] 27)) y s2 lo) := (HB.out.bd hBd.out).ext x4
    have HS : Hid (B1 s2 (v.does (regN d) (wrN d) (rdN d))) := hs2
    generalize (w3.alloc (.cells #[.int .i64 1, .slice ra (ansB d v).length rc] 27)) = w4 at *
    generalize w3.heap.size = na at *
    clear x4 hq hs2 hBd HDO HT HNT Ft qt0 qt1 qt2 qt3
    obtain ⟨D, hD⟩ : ∃ D, takeD d 1 (ansB d v) = D := ⟨_, rfl⟩
    obtain ⟨tl, hT⟩ : ∃ tl, toldD d 1 (ansB d v) = tl := ⟨_, rfl⟩
    have HK : Hid (Jn L per (i + 1) D (doesB d v) (all ++ tl) ∧ tl.length ≤ 4) := ⟨by rw [← hD, ← hT]; exact HJ.out.nx, by rw [← hT]; exact HJ.out.tl⟩
    have hD0 : D.bad = 0 := by rw [← hD]; exact HJ.out.nb
    have HTK : Hid (Calls Try.prog 19 #[.agg #[.int .i64 d.addr, .int .i64 d.id, .bool d.want, .int .i64 d.per, .int .i64 d.st, .int .i64 d.fails, .bool d.tried, .int .i64 d.left, .int .i64 d.bad], .agg #[.int .i64 1, .slice ra (ansB d v).length rc]] w4 fun e w' => ∃ rb rd, e = .returned (.tuple #[drv D, .slice rb tl.length rd, .bool false, .int .i64 0]) ∧ Hid (RawsAt (w4.heap.size + 3) tl w' (.slice rb tl.length rd)) ∧ Ext w4 w') := by
      have h := bn_take (w := w4) (r := ra) (rc := rc) HJ.out HQ.out.1 HQ.out.2
      rw [hD, hT] at h
      exact h
    clear hD hT HJ HQ
    obtain ⟨D0, D1, D2, D3, D4, D5, D6, D7, D8⟩ := D
    dsimp only at hD0
    subst hD0
    have HTK : Hid (Calls Try.prog 19 #[.agg #[.int .i64 d.addr, .int .i64 d.id, .bool d.want, .int .i64 d.per, .int .i64 d.st, .int .i64 d.fails, .bool d.tried, .int .i64 d.left, .int .i64 d.bad], .agg #[.int .i64 1, .slice ra (ansB d v).length rc]] w4 fun e w' => ∃ rb rd, e = .returned (.tuple #[.agg #[.int .i64 D0, .int .i64 D1, .bool D2, .int .i64 D3, .int .i64 D4, .int .i64 D5, .bool D6, .int .i64 D7, .int .i64 0], .slice rb tl.length rd, .bool false, .int .i64 0]) ∧ Hid (RawsAt (w4.heap.size + 3) tl w' (.slice rb tl.length rd)) ∧ Ext w4 w') := HTK.out
    have qd0 : w4.cell? ⟨nd, 0, none⟩ = some (.int .i64 d.addr) := Fd.out.c 0 rfl
    have qd1 : w4.cell? ⟨nd, 1, none⟩ = some (.int .i64 d.id) := Fd.out.c 1 rfl
    have qd2 : w4.cell? ⟨nd, 2, none⟩ = some (.bool d.want) := Fd.out.c 2 rfl
    have qd3 : w4.cell? ⟨nd, 3, none⟩ = some (.int .i64 d.per) := Fd.out.c 3 rfl
    have qd4 : w4.cell? ⟨nd, 4, none⟩ = some (.int .i64 d.st) := Fd.out.c 4 rfl
    have qd5 : w4.cell? ⟨nd, 5, none⟩ = some (.int .i64 d.fails) := Fd.out.c 5 rfl
    have qd6 : w4.cell? ⟨nd, 6, none⟩ = some (.bool d.tried) := Fd.out.c 6 rfl
    have qd7 : w4.cell? ⟨nd, 7, none⟩ = some (.int .i64 d.left) := Fd.out.c 7 rfl
    have qd8 : w4.cell? ⟨nd, 8, none⟩ = some (.int .i64 d.bad) := Fd.out.c 8 rfl
    have qa0 : w4.cell? ⟨na, 0, none⟩ = some (.int .i64 1) := Fa.out.c 0 rfl
    have qa1 : w4.cell? ⟨na, 1, none⟩ = some (.slice ra (ansB d v).length rc) := Fa.out.c 1 rfl
    go_upto_region 20 with (go_at_call 19; refine HTK.out.mono ?_; rintro e w5 ⟨rb, rd, rfl, hR5, x5⟩)
    have x6 : Ext w4 (w5.alloc (.cells #[.int .i64 D0, .int .i64 D1, .bool D2, .int .i64 D3, .int .i64 D4, .int .i64 D5, .bool D6, .int .i64 D7, .int .i64 0] 24)) := x5.alloc _
    have HNN : Hid (nd < w5.heap.size ∧ nd < w4.heap.size) := ⟨by have := Fd.out.1; have := x5.size; omega, Fd.out.1⟩
    have Fd : Hid (HV (w5.alloc (.cells #[.int .i64 D0, .int .i64 D1, .bool D2, .int .i64 D3, .int .i64 D4, .int .i64 D5, .bool D6, .int .i64 D7, .int .i64 0] 24)) nd [.int .i64 d.addr, .int .i64 d.id, .bool d.want, .int .i64 d.per, .int .i64 d.st, .int .i64 d.fails, .bool d.tried, .int .i64 d.left, .int .i64 d.bad]) := Fd.out.ext x6
    have Fp : Hid (HV (w5.alloc (.cells #[.int .i64 D0, .int .i64 D1, .bool D2, .int .i64 D3, .int .i64 D4, .int .i64 D5, .bool D6, .int .i64 D7, .int .i64 0] 24)) np [.slice a L.length c, .int .i64 N]) := Fp.out.ext x6
    have Fn : Hid (HV (w5.alloc (.cells #[.int .i64 D0, .int .i64 D1, .bool D2, .int .i64 D3, .int .i64 D4, .int .i64 D5, .bool D6, .int .i64 D7, .int .i64 0] 24)) w5.heap.size [.int .i64 D0, .int .i64 D1, .bool D2, .int .i64 D3, .int .i64 D4, .int .i64 D5, .bool D6, .int .i64 D7, .int .i64 0]) := hv_at rfl
    have HR : Hid ((w5.alloc (.cells #[.int .i64 D0, .int .i64 D1, .bool D2, .int .i64 D3, .int .i64 D4, .int .i64 D5, .bool D6, .int .i64 D7, .int .i64 0] 24)).ownsRow (nd + 1) 72 4 va9 all.length (rvs all)) := row_ext HR.out x6
    have HW5 : Hid (RawsAt (nd + 1) tl (w5.alloc (.cells #[.int .i64 D0, .int .i64 D1, .bool D2, .int .i64 D3, .int .i64 D4, .int .i64 D5, .bool D6, .int .i64 D7, .int .i64 0] 24)) (.slice rb tl.length rd)) := row_ext (row_base hR5.out (by have := HNN.out.2; omega)) ((Ext.refl w5).alloc _)
    have HB : Hid (Hb w (w5.alloc (.cells #[.int .i64 D0, .int .i64 D1, .bool D2, .int .i64 D3, .int .i64 D4, .int .i64 D5, .bool D6, .int .i64 D7, .int .i64 0] 24)) y s2 lo) := HB.out.ext x6
    generalize (w5.alloc (.cells #[.int .i64 D0, .int .i64 D1, .bool D2, .int .i64 D3, .int .i64 D4, .int .i64 D5, .bool D6, .int .i64 D7, .int .i64 0] 24)) = w6 at *
    generalize w5.heap.size = nn at *
    clear x5 x6 hR5 HTK Fa HNA qd0 qd1 qd2 qd3 qd4 qd5 qd6 qd7 qd8 qa0 qa1
    have qn0 : w6.cell? ⟨nn, 0, none⟩ = some (.int .i64 D0) := Fn.out.c 0 rfl
    have qn1 : w6.cell? ⟨nn, 1, none⟩ = some (.int .i64 D1) := Fn.out.c 1 rfl
    have qn2 : w6.cell? ⟨nn, 2, none⟩ = some (.bool D2) := Fn.out.c 2 rfl
    have qn3 : w6.cell? ⟨nn, 3, none⟩ = some (.int .i64 D3) := Fn.out.c 3 rfl
    have qn4 : w6.cell? ⟨nn, 4, none⟩ = some (.int .i64 D4) := Fn.out.c 4 rfl
    have qn5 : w6.cell? ⟨nn, 5, none⟩ = some (.int .i64 D5) := Fn.out.c 5 rfl
    have qn6 : w6.cell? ⟨nn, 6, none⟩ = some (.bool D6) := Fn.out.c 6 rfl
    have qn7 : w6.cell? ⟨nn, 7, none⟩ = some (.int .i64 D7) := Fn.out.c 7 rfl
    have qn8 : w6.cell? ⟨nn, 8, none⟩ = some (.int .i64 0) := Fn.out.c 8 rfl
    go_upto_region 22 with (go_at_call 11; refine (HNU.out _ _).mono ?_; rintro e wx ⟨rfl, hwx⟩; have hwy := hwx.symm; clear hwx; subst hwy)
    have zd0 : w6.frozen? ⟨nd, 0, none⟩ = false := Fd.out.f 0 rfl
    have zd1 : w6.frozen? ⟨nd, 1, none⟩ = false := Fd.out.f 1 rfl
    have zd2 : w6.frozen? ⟨nd, 2, none⟩ = false := Fd.out.f 2 rfl
    have zd3 : w6.frozen? ⟨nd, 3, none⟩ = false := Fd.out.f 3 rfl
    have zd4 : w6.frozen? ⟨nd, 4, none⟩ = false := Fd.out.f 4 rfl
    have zd5 : w6.frozen? ⟨nd, 5, none⟩ = false := Fd.out.f 5 rfl
    have zd6 : w6.frozen? ⟨nd, 6, none⟩ = false := Fd.out.f 6 rfl
    have zd7 : w6.frozen? ⟨nd, 7, none⟩ = false := Fd.out.f 7 rfl
    have zd8 : w6.frozen? ⟨nd, 8, none⟩ = false := Fd.out.f 8 rfl
    have qd0 : w6.cell? ⟨nd, 0, none⟩ = some (.int .i64 d.addr) := Fd.out.c 0 rfl
    have qd1 : w6.cell? ⟨nd, 1, none⟩ = some (.int .i64 d.id) := Fd.out.c 1 rfl
    have qd2 : w6.cell? ⟨nd, 2, none⟩ = some (.bool d.want) := Fd.out.c 2 rfl
    have qd3 : w6.cell? ⟨nd, 3, none⟩ = some (.int .i64 d.per) := Fd.out.c 3 rfl
    have qd4 : w6.cell? ⟨nd, 4, none⟩ = some (.int .i64 d.st) := Fd.out.c 4 rfl
    have qd5 : w6.cell? ⟨nd, 5, none⟩ = some (.int .i64 d.fails) := Fd.out.c 5 rfl
    have qd6 : w6.cell? ⟨nd, 6, none⟩ = some (.bool d.tried) := Fd.out.c 6 rfl
    have qd7 : w6.cell? ⟨nd, 7, none⟩ = some (.int .i64 d.left) := Fd.out.c 7 rfl
    have qd8 : w6.cell? ⟨nd, 8, none⟩ = some (.int .i64 d.bad) := Fd.out.c 8 rfl
    go_upto_region 23 with fail
    have hn := HLO.out
    have t7 : Tn (fun k => k = nd) w6 (((((((((w6.setCell ⟨nd, 0, none⟩ (.int .i64 D0)).setCell ⟨nd, 1, none⟩ (.int .i64 D1)).setCell ⟨nd, 2, none⟩ (.bool D2)).setCell ⟨nd, 3, none⟩ (.int .i64 D3)).setCell ⟨nd, 4, none⟩ (.int .i64 D4)).setCell ⟨nd, 5, none⟩ (.int .i64 D5)).setCell ⟨nd, 6, none⟩ (.bool D6)).setCell ⟨nd, 7, none⟩ (.int .i64 D7)).setCell ⟨nd, 8, none⟩ (.int .i64 0)) := tn_nine w6 nd ⟨D0, D1, D2, D3, D4, D5, D6, D7, 0⟩
    have HB : Hid (Hb w (((((((((w6.setCell ⟨nd, 0, none⟩ (.int .i64 D0)).setCell ⟨nd, 1, none⟩ (.int .i64 D1)).setCell ⟨nd, 2, none⟩ (.bool D2)).setCell ⟨nd, 3, none⟩ (.int .i64 D3)).setCell ⟨nd, 4, none⟩ (.int .i64 D4)).setCell ⟨nd, 5, none⟩ (.int .i64 D5)).setCell ⟨nd, 6, none⟩ (.bool D6)).setCell ⟨nd, 7, none⟩ (.int .i64 D7)).setCell ⟨nd, 8, none⟩ (.int .i64 0)) y s2 lo) := HB.out.own t7 (fun k e => by omega)
    have HR : Hid ((((((((((w6.setCell ⟨nd, 0, none⟩ (.int .i64 D0)).setCell ⟨nd, 1, none⟩ (.int .i64 D1)).setCell ⟨nd, 2, none⟩ (.bool D2)).setCell ⟨nd, 3, none⟩ (.int .i64 D3)).setCell ⟨nd, 4, none⟩ (.int .i64 D4)).setCell ⟨nd, 5, none⟩ (.int .i64 D5)).setCell ⟨nd, 6, none⟩ (.bool D6)).setCell ⟨nd, 7, none⟩ (.int .i64 D7)).setCell ⟨nd, 8, none⟩ (.int .i64 0)).ownsRow (nd + 1) 72 4 va9 all.length (rvs all)) := row_tn HR.out t7 (fun k h1 _ e => by omega)
    have HW5 : Hid (RawsAt (nd + 1) tl (((((((((w6.setCell ⟨nd, 0, none⟩ (.int .i64 D0)).setCell ⟨nd, 1, none⟩ (.int .i64 D1)).setCell ⟨nd, 2, none⟩ (.bool D2)).setCell ⟨nd, 3, none⟩ (.int .i64 D3)).setCell ⟨nd, 4, none⟩ (.int .i64 D4)).setCell ⟨nd, 5, none⟩ (.int .i64 D5)).setCell ⟨nd, 6, none⟩ (.bool D6)).setCell ⟨nd, 7, none⟩ (.int .i64 D7)).setCell ⟨nd, 8, none⟩ (.int .i64 0)) (.slice rb tl.length rd)) := row_tn HW5.out t7 (fun k h1 _ e => by omega)
    have Fp : Hid (HV (((((((((w6.setCell ⟨nd, 0, none⟩ (.int .i64 D0)).setCell ⟨nd, 1, none⟩ (.int .i64 D1)).setCell ⟨nd, 2, none⟩ (.bool D2)).setCell ⟨nd, 3, none⟩ (.int .i64 D3)).setCell ⟨nd, 4, none⟩ (.int .i64 D4)).setCell ⟨nd, 5, none⟩ (.int .i64 D5)).setCell ⟨nd, 6, none⟩ (.bool D6)).setCell ⟨nd, 7, none⟩ (.int .i64 D7)).setCell ⟨nd, 8, none⟩ (.int .i64 0)) np [.slice a L.length c, .int .i64 N]) := Fp.out.tn t7 (by omega)
    have Fd : Hid (HV (((((((((w6.setCell ⟨nd, 0, none⟩ (.int .i64 D0)).setCell ⟨nd, 1, none⟩ (.int .i64 D1)).setCell ⟨nd, 2, none⟩ (.bool D2)).setCell ⟨nd, 3, none⟩ (.int .i64 D3)).setCell ⟨nd, 4, none⟩ (.int .i64 D4)).setCell ⟨nd, 5, none⟩ (.int .i64 D5)).setCell ⟨nd, 6, none⟩ (.bool D6)).setCell ⟨nd, 7, none⟩ (.int .i64 D7)).setCell ⟨nd, 8, none⟩ (.int .i64 0)) nd [.int .i64 D0, .int .i64 D1, .bool D2, .int .i64 D3, .int .i64 D4, .int .i64 D5, .bool D6, .int .i64 D7, .int .i64 0]) := Fd.out.nine ⟨D0, D1, D2, D3, D4, D5, D6, D7, 0⟩
    generalize (((((((((w6.setCell ⟨nd, 0, none⟩ (.int .i64 D0)).setCell ⟨nd, 1, none⟩ (.int .i64 D1)).setCell ⟨nd, 2, none⟩ (.bool D2)).setCell ⟨nd, 3, none⟩ (.int .i64 D3)).setCell ⟨nd, 4, none⟩ (.int .i64 D4)).setCell ⟨nd, 5, none⟩ (.int .i64 D5)).setCell ⟨nd, 6, none⟩ (.bool D6)).setCell ⟨nd, 7, none⟩ (.int .i64 D7)).setCell ⟨nd, 8, none⟩ (.int .i64 0)) = w7 at *
    clear t7 hn Fn HNN qn0 qn1 qn2 qn3 qn4 qn5 qn6 qn7 qn8 zd0 zd1 zd2 zd3 zd4 zd5 zd6 zd7 zd8 qd0 qd1 qd2 qd3 qd4 qd5 qd6 qd7 qd8
    have HVD : Hid (nd < w7.heap.size) := Fd.out.1
    have HN1 : Hid ((all ++ tl).length ≤ 200) := by
      have h1 := HK.out.2; have h2 := HA.out.2.2
      show (all ++ tl).length ≤ 200
      rw [List.length_append]; omega
    go_cut [9] from 87 to 146 (fun v9 wx => ∃ vb, vb = v9 ∧ Hid (Hb w wx y s2 lo ∧ HV wx nd [.int .i64 D0, .int .i64 D1, .bool D2, .int .i64 D3, .int .i64 D4, .int .i64 D5, .bool D6, .int .i64 D7, .int .i64 0] ∧ HV wx np [.slice a L.length c, .int .i64 N] ∧ wx.ownsRow (nd + 1) 72 4 vb (all ++ tl).length (rvs (all ++ tl))))
    case first =>
      by_cases h0 : tl.length = 0
      · have e0 : tl = [] := List.eq_nil_of_length_eq_zero h0
        subst e0
        go_wp2_with (at_builtin; refine wpList_append_zero rfl (.tmp 142) (.tmp 143) 43 rfl (nd + 1) 72 i0 4 Try.underlying43 hi0 va9 all.length (rvs all) rfl HR.out rb rd rfl ?_)
        go_meet
        refine ⟨_, rfl, HB.out, Fd.out, Fp.out, ?_⟩
        rw [List.append_nil]
        exact HR.out
      · obtain ⟨g, rfl, hg1, hgc⟩ := row_cells HW5.out (by omega)
        have hlen : (rvs all ++ rvs tl) = rvs (all ++ tl) := (rvs_app all tl).symm
        have h200 := HN1.out
        rw [List.length_append] at h200
        go_wp2_with (at_builtin; refine wpList_append_lies _ rfl (.tmp 142) (.tmp 143) 43 rfl (nd + 1) 72 i0 (.agg #[.int .i64 0, .int .i64 0, .int .i64 0, .int .i64 0]) 4 32 Try.underlying43 hi0 hz0 hz1 hz2 rfl (by decide) va9 all.length (rvs all) rfl HR.out ⟨g, 0, none⟩ tl.length rd (rvs tl) rfl (rvs_length tl) hgc (rvs_one tl) (by omega) (by unfold maxLen; omega) (by omega) (by have := HVD.out; omega) _ rfl ?_; intro g1 cap1 w8 ho8 hg8 hb8 hl8)
        go_meet
        have t8 := grown_tn hg8
        have hn := HLO.out
        have hob : ∀ k, va9.ownBlock = some k → nd + 1 ≤ k := fun k hk => own_block HR.out hk
        refine ⟨_, rfl, HB.out.own t8 (fun k e => by have := hob k e; omega), Fd.out.tn t8 (fun e => by have := hob nd e; omega), Fp.out.tn t8 (fun e => by have := hob np e; omega), ?_⟩
        rw [List.length_append, rvs_app]
        exact ho8
    case rest =>
      obtain ⟨vb, hvb, HC⟩ := hcut
      subst hvb
      have HCo := HC.out
      have HB : Hid (Hb w wc y s2 lo) := HCo.1
      have Fd : Hid (HV wc nd [.int .i64 D0, .int .i64 D1, .bool D2, .int .i64 D3, .int .i64 D4, .int .i64 D5, .bool D6, .int .i64 D7, .int .i64 0]) := HCo.2.1
      have Fp : Hid (HV wc np [.slice a L.length c, .int .i64 N]) := HCo.2.2.1
      have HR : Hid (wc.ownsRow (nd + 1) 72 4 vb (all ++ tl).length (rvs (all ++ tl))) := HCo.2.2.2
      clear HC HCo
      have HTI : Hid (Calls Try.prog 28 #[.pointer (some ⟨y.b, 0, none⟩), .int .i64 2] wc fun e w' => ∃ s3, e = .returned (.int .i64 0) ∧ Hid (B1 s3 (doesB d v)) ∧ Hid (Bd y s3 wc w')) := bn_tick HB.out HS.out
      go_wp2_with (go_at_call 28; refine HTI.out.mono ?_; rintro e w9 ⟨s3, rfl, hs3, hBd⟩)
      refine hQ _ _ _ _ _ _ _ _ _ _ _ _ _ _ _ _ _ _ _ _ _ _ _ _ _ _ _ _ _ _ _ _ _ _ _ _ _ _ _ _ _ _ _ _ _ _ _ _ _ _ _ _ _ _ _ _ _ _ _ _ _ _ _ _ _ _ _ _ _ _ _ ⟨D0, D1, D2, D3, D4, D5, D6, D7, 0⟩ tl _ (by go_num) ⟨⟨s3, doesB d v, HB.out.bd hBd.out, hs3.out, HK.out.1⟩, HB.out.hv hBd.out Fd.out (.inr HLO.out.2.1), Fp.out.tn hBd.out.2 HFP.out, row_tn HR.out hBd.out.2 (fun k h1 _ o => ?_)⟩
      have := HB.out.g k o; have := HLO.out.2.1; omega
end Go.Proofs.Ytdfhhfpfnkjbnaa
