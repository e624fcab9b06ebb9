/- DrvBus: what is behind its loops. -/
import Derived.Test.YtdfhhfpfnkjbnaaBn4
namespace Go.Proofs.Ytdfhhfpfnkjbnaa
open Go.RowKit Go.Conc
set_option maxRecDepth 20000 in
set_option maxHeartbeats 16000000 in
theorem bustail (w wr : World) (y : BA) (s : Bs) (v : Dv) (d : Dr) (lo np nd len g gc : Nat) (bd cd : Code) (hbd : Try.f7.body = some bd) (hcd : cd = rgt [(), (), (), (), (), (), (), (), (), ()] bd) (z0 z2 z3 z5 z7 z8 z10 z11 z12 z13 z14 z15 z16 z17 z18 z19 z20 z21 z22 z23 z24 z25 z26 z27 z28 z29 z30 z31 z32 z33 z34 z35 z36 z37 z38 z39 z40 z41 z42 z43 z44 z45 z46 z47 z48 z49 z50 z51 z52 z53 z54 z55 z56 z57 z58 z59 z60 z61 z62 z63 z64 z65 z66 z67 z68 z69 z70 z71 z72 z73 z74 z75 z76 z77 z78 z79 z80 z81 z82 z83 z84 z85 z86 z87 z88 z89 z90 z91 z92 z93 z94 z95 z96 z97 z98 z99 z100 z101 z102 z103 z104 z105 z106 z107 z108 z109 z110 z111 z112 z113 z114 z115 z116 z117 z118 z119 z120 z121 z122 z123 z124 z125 z126 z127 z128 z129 z130 z131 z132 z133 z134 z135 z136 z137 z138 z139 z140 z141 z142 z143 z144 z145 z146 z147 z148 z149 z150 z151 z152 z153 z154 z155 z156 z157 z158 z159 z160 z161 z162 z163 z164 z165 z166 z167 z168 z169 z170 z171 z172 z173 z174 z175 z176 z177 z178 z179 z180 z181 z182 z183 z184 z185 z186 z187 z188 z189 z190 z191 z192 z193 z194 z195 z196 z197 z198 z199 z200 z201 z202 z203 z204 z205 z206 z207 z208 z209 z210 z211 z212 z213 z214 z215 z216 z217 z218 z219 z220 z221 z222 z223 z224 z225 z226 z227 z228 z229 z230 z231 z232 z233 z234 z235 z236 z237 z238 z239 z240 z241 z242 : Value)
    (HNU : Hid (∀ v w', Calls Try.prog 11 #[.int .i64 v] w' fun e w'' => e = .returned (.int .i64 v) ∧ w'' = w'))
    (HW : Hid (∀ w', Calls Try.prog 13 #[] w' fun e w'' => e = .returned (.bool true) ∧ Ext w' w''))
    (HB : Hid (Hb w wr y s lo)) (HS : Hid (B1 s v)) (HOK : Hid (okD d = true)) (HD : Hid (d.addr = 16 ∧ d.id = 49 ∧ d.bad = 0 ∧ (d.st = 4 ∨ d.st = 5) ∧ v.addr = 16 ∧ inn d.per 1 250 = true)) (Fd : Hid (HV wr nd [.int .i64 d.addr, .int .i64 d.id, .bool d.want, .int .i64 d.per, .int .i64 d.st, .int .i64 d.fails, .bool d.tried, .int .i64 d.left, .int .i64 d.bad])) (HLO : Hid (np < lo ∧ lo ≤ nd ∧ w.heap.size ≤ nd)) (hpos : (0 : Int) < (len : Int)) :
    Code.wp Try.prog cd (bodyPost Try.prog Try.f7 fun e w' => e = .returned (.bool true) ∧ Ext w w') { tmps := #[z0, .pointer (some ⟨np, 0, none⟩), z2, z3, .pointer (some ⟨y.b, 0, none⟩), z5, .pointer (some ⟨nd, 0, none⟩), z7, z8, .slice (some ⟨g, 0, none⟩) len gc, z10, z11, z12, z13, z14, z15, z16, z17, z18, z19, z20, z21, z22, z23, z24, z25, z26, z27, z28, z29, z30, z31, z32, z33, z34, z35, z36, z37, z38, z39, z40, z41, z42, z43, z44, z45, z46, z47, z48, z49, z50, z51, z52, z53, z54, z55, z56, z57, z58, z59, z60, z61, z62, z63, z64, z65, z66, z67, z68, z69, z70, z71, z72, z73, z74, z75, z76, z77, z78, z79, z80, z81, z82, z83, z84, z85, z86, z87, z88, z89, z90, z91, z92, z93, z94, z95, z96, z97, z98, z99, z100, z101, z102, z103, z104, z105, z106, z107, z108, z109, z110, z111, z112, z113, z114, z115, z116, z117, z118, z119, z120, z121, z122, z123, z124, z125, z126, z127, z128, z129, z130, z131, z132, z133, z134, z135, z136, z137, z138, z139, z140, z141, z142, z143, z144, z145, z146, z147, z148, z149, z150, z151, z152, z153, z154, z155, z156, z157, z158, z159, z160, z161, z162, z163, z164, z165, z166, z167, z168, z169, z170, z171, z172, z173, z174, z175, z176, z177, z178, z179, z180, z181, z182, z183, z184, z185, z186, z187, z188, z189, z190, z191, z192, z193, z194, z195, z196, z197, z198, z199, z200, z201, z202, z203, z204, z205, z206, z207, z208, z209, z210, z211, z212, z213, z214, z215, z216, z217, z218, z219, z220, z221, z222, z223, z224, z225, z226, z227, z228, z229, z230, z231, z232, z233, z234, z235, z236, z237, z238, z239, z240, z241, z242], defers := [] } wr := by
  subst hcd
  simp only [Try.f7] at hbd
  injection hbd with hbd
  subst hbd
  simp only [rgt]
  show (let Q : Exit → Act → World → Prop := bodyPost Try.prog Try.f7 fun e w' => e = .returned (.bool true) ∧ Ext w w'; Code.wp Try.prog _ Q _ _)
  intro Q
  obtain ⟨d6, e6⟩ : ∃ d6 : Dr, d6 = ⟨16, 49, false, d.per, 6, 0, d.tried, 0, 0⟩ := ⟨_, rfl⟩
  have es : setD d false d.per = d6 := by rw [stop_set HD.out.2.2.2.1, e6, HD.out.1, HD.out.2.1, HD.out.2.2.1]
  have hok6 : okD d6 = true := by have h := setD_ok d HOK.out false d.per HD.out.2.2.2.2.2; rw [es] at h; exact h
  have HJ6 : Hid (Jw d6 v ∧ (takeD d6 1 (ansB d6 v)).st = 0 ∧ v.does (regN d6) (wrN d6) (rdN d6) = v.turn false ∧ d6.addr = 16) := by
    rw [e6] at hok6
    have h := jw_stop (v := v) hok6
    rw [e6]
    exact ⟨h.1, h.2.1, h.2.2, rfl⟩
  have HSE : Hid (∀ W, Calls Try.prog 14 #[.agg #[.int .i64 d.addr, .int .i64 d.id, .bool d.want, .int .i64 d.per, .int .i64 d.st, .int .i64 d.fails, .bool d.tried, .int .i64 d.left, .int .i64 d.bad], .bool false, .int .i64 d.per] W fun e w' => e = .returned (.tuple #[.agg #[.int .i64 d6.addr, .int .i64 d6.id, .bool d6.want, .int .i64 d6.per, .int .i64 d6.st, .int .i64 d6.fails, .bool d6.tried, .int .i64 d6.left, .int .i64 d6.bad], .int .i64 0]) ∧ Ext W w') := fun W => by
    have h := setdr_good d false d.per HOK.out HD.out.2.2.2.2.2 W
    rw [es] at h
    exact h
  clear es e6 hok6 HOK
  have qd0 : wr.cell? ⟨nd, 0, none⟩ = some (.int .i64 d.addr) := Fd.out.c 0 rfl
  have qd1 : wr.cell? ⟨nd, 1, none⟩ = some (.int .i64 d.id) := Fd.out.c 1 rfl
  have qd2 : wr.cell? ⟨nd, 2, none⟩ = some (.bool d.want) := Fd.out.c 2 rfl
  have qd3 : wr.cell? ⟨nd, 3, none⟩ = some (.int .i64 d.per) := Fd.out.c 3 rfl
  have qd4 : wr.cell? ⟨nd, 4, none⟩ = some (.int .i64 d.st) := Fd.out.c 4 rfl
  have qd5 : wr.cell? ⟨nd, 5, none⟩ = some (.int .i64 d.fails) := Fd.out.c 5 rfl
  have qd6 : wr.cell? ⟨nd, 6, none⟩ = some (.bool d.tried) := Fd.out.c 6 rfl
  have qd7 : wr.cell? ⟨nd, 7, none⟩ = some (.int .i64 d.left) := Fd.out.c 7 rfl
  have qd8 : wr.cell? ⟨nd, 8, none⟩ = some (.int .i64 d.bad) := Fd.out.c 8 rfl
  go_upto_region 31 with (go_at_call 14; refine (HSE.out _).mono ?_; rintro e z1 ⟨rfl, x1⟩; have kd0 : z1.cell? ⟨nd, 0, none⟩ = some (.int .i64 d.addr) := (Fd.out.ext x1).c 0 rfl; have kd1 : z1.cell? ⟨nd, 1, none⟩ = some (.int .i64 d.id) := (Fd.out.ext x1).c 1 rfl; have kd2 : z1.cell? ⟨nd, 2, none⟩ = some (.bool d.want) := (Fd.out.ext x1).c 2 rfl; have kd3 : z1.cell? ⟨nd, 3, none⟩ = some (.int .i64 d.per) := (Fd.out.ext x1).c 3 rfl; have kd4 : z1.cell? ⟨nd, 4, none⟩ = some (.int .i64 d.st) := (Fd.out.ext x1).c 4 rfl; have kd5 : z1.cell? ⟨nd, 5, none⟩ = some (.int .i64 d.fails) := (Fd.out.ext x1).c 5 rfl; have kd6 : z1.cell? ⟨nd, 6, none⟩ = some (.bool d.tried) := (Fd.out.ext x1).c 6 rfl; have kd7 : z1.cell? ⟨nd, 7, none⟩ = some (.int .i64 d.left) := (Fd.out.ext x1).c 7 rfl; have kd8 : z1.cell? ⟨nd, 8, none⟩ = some (.int .i64 d.bad) := (Fd.out.ext x1).c 8 rfl; have zd0 : z1.frozen? ⟨nd, 0, none⟩ = false := (Fd.out.ext x1).f 0 rfl; have zd1 : z1.frozen? ⟨nd, 1, none⟩ = false := (Fd.out.ext x1).f 1 rfl; have zd2 : z1.frozen? ⟨nd, 2, none⟩ = false := (Fd.out.ext x1).f 2 rfl; have zd3 : z1.frozen? ⟨nd, 3, none⟩ = false := (Fd.out.ext x1).f 3 rfl; have zd4 : z1.frozen? ⟨nd, 4, none⟩ = false := (Fd.out.ext x1).f 4 rfl; have zd5 : z1.frozen? ⟨nd, 5, none⟩ = false := (Fd.out.ext x1).f 5 rfl; have zd6 : z1.frozen? ⟨nd, 6, none⟩ = false := (Fd.out.ext x1).f 6 rfl; have zd7 : z1.frozen? ⟨nd, 7, none⟩ = false := (Fd.out.ext x1).f 7 rfl; have zd8 : z1.frozen? ⟨nd, 8, none⟩ = false := (Fd.out.ext x1).f 8 rfl)
  have hn := HLO.out
  have t7 : Tn (fun k => k = nd) z1 (((((((((z1.setCell ⟨nd, 0, none⟩ (.int .i64 d6.addr)).setCell ⟨nd, 1, none⟩ (.int .i64 d6.id)).setCell ⟨nd, 2, none⟩ (.bool d6.want)).setCell ⟨nd, 3, none⟩ (.int .i64 d6.per)).setCell ⟨nd, 4, none⟩ (.int .i64 d6.st)).setCell ⟨nd, 5, none⟩ (.int .i64 d6.fails)).setCell ⟨nd, 6, none⟩ (.bool d6.tried)).setCell ⟨nd, 7, none⟩ (.int .i64 d6.left)).setCell ⟨nd, 8, none⟩ (.int .i64 d6.bad)) := tn_nine z1 nd d6
  have HB : Hid (Hb w (((((((((z1.setCell ⟨nd, 0, none⟩ (.int .i64 d6.addr)).setCell ⟨nd, 1, none⟩ (.int .i64 d6.id)).setCell ⟨nd, 2, none⟩ (.bool d6.want)).setCell ⟨nd, 3, none⟩ (.int .i64 d6.per)).setCell ⟨nd, 4, none⟩ (.int .i64 d6.st)).setCell ⟨nd, 5, none⟩ (.int .i64 d6.fails)).setCell ⟨nd, 6, none⟩ (.bool d6.tried)).setCell ⟨nd, 7, none⟩ (.int .i64 d6.left)).setCell ⟨nd, 8, none⟩ (.int .i64 d6.bad)) y s lo) := (HB.out.ext x1).own t7 (fun k e => by omega)
  have Fd : Hid (HV (((((((((z1.setCell ⟨nd, 0, none⟩ (.int .i64 d6.addr)).setCell ⟨nd, 1, none⟩ (.int .i64 d6.id)).setCell ⟨nd, 2, none⟩ (.bool d6.want)).setCell ⟨nd, 3, none⟩ (.int .i64 d6.per)).setCell ⟨nd, 4, none⟩ (.int .i64 d6.st)).setCell ⟨nd, 5, none⟩ (.int .i64 d6.fails)).setCell ⟨nd, 6, none⟩ (.bool d6.tried)).setCell ⟨nd, 7, none⟩ (.int .i64 d6.left)).setCell ⟨nd, 8, none⟩ (.int .i64 d6.bad)) nd [.int .i64 d6.addr, .int .i64 d6.id, .bool d6.want, .int .i64 d6.per, .int .i64 d6.st, .int .i64 d6.fails, .bool d6.tried, .int .i64 d6.left, .int .i64 d6.bad]) := (Fd.out.ext x1).nine d6
  generalize (((((((((z1.setCell ⟨nd, 0, none⟩ (.int .i64 d6.addr)).setCell ⟨nd, 1, none⟩ (.int .i64 d6.id)).setCell ⟨nd, 2, none⟩ (.bool d6.want)).setCell ⟨nd, 3, none⟩ (.int .i64 d6.per)).setCell ⟨nd, 4, none⟩ (.int .i64 d6.st)).setCell ⟨nd, 5, none⟩ (.int .i64 d6.fails)).setCell ⟨nd, 6, none⟩ (.bool d6.tried)).setCell ⟨nd, 7, none⟩ (.int .i64 d6.left)).setCell ⟨nd, 8, none⟩ (.int .i64 d6.bad)) = z1s at *
  clear t7 hn x1 kd0 zd0 kd1 zd1 kd2 zd2 kd3 zd3 kd4 zd4 kd5 zd5 kd6 zd6 kd7 zd7 kd8 zd8
  clear HSE qd0 qd1 qd2 qd3 qd4 qd5 qd6 qd7 qd8
  have HX : Hid (∀ W, Calls Try.prog 9 #[.agg #[.int .i64 d6.addr, .int .i64 d6.id, .bool d6.want, .int .i64 d6.per, .int .i64 d6.st, .int .i64 d6.fails, .bool d6.tried, .int .i64 d6.left, .int .i64 d6.bad]] W fun e w' => ∃ ta tc, e = .returned (.tuple #[.agg #[.int .i64 16, .int .i64 (regN d6 : Int), .slice ta (wrN d6).length tc, .int .i64 (rdN d6 : Int)], .bool true, .int .i64 0]) ∧ Hid (BR w' ta (wrN d6) ∧ ∀ k off, 0 < (wrN d6).length → ta = some ⟨k, off, none⟩ → W.heap.size ≤ k) ∧ Ext W w') := fun W => bw_next HJ6.out.1 HJ6.out.2.2.2 W
  have qd0 : z1s.cell? ⟨nd, 0, none⟩ = some (.int .i64 d6.addr) := Fd.out.c 0 rfl
  have qd1 : z1s.cell? ⟨nd, 1, none⟩ = some (.int .i64 d6.id) := Fd.out.c 1 rfl
  have qd2 : z1s.cell? ⟨nd, 2, none⟩ = some (.bool d6.want) := Fd.out.c 2 rfl
  have qd3 : z1s.cell? ⟨nd, 3, none⟩ = some (.int .i64 d6.per) := Fd.out.c 3 rfl
  have qd4 : z1s.cell? ⟨nd, 4, none⟩ = some (.int .i64 d6.st) := Fd.out.c 4 rfl
  have qd5 : z1s.cell? ⟨nd, 5, none⟩ = some (.int .i64 d6.fails) := Fd.out.c 5 rfl
  have qd6 : z1s.cell? ⟨nd, 6, none⟩ = some (.bool d6.tried) := Fd.out.c 6 rfl
  have qd7 : z1s.cell? ⟨nd, 7, none⟩ = some (.int .i64 d6.left) := Fd.out.c 7 rfl
  have qd8 : z1s.cell? ⟨nd, 8, none⟩ = some (.int .i64 d6.bad) := Fd.out.c 8 rfl
  have HVS : Hid (lo ≤ z1s.heap.size) := HB.out.s
  go_upto_region 32 with (go_at_call 9; refine (HX.out _).mono ?_; rintro e w1 ⟨ta, tc, rfl, ht, x1⟩)
  have x2 : Ext z1s (w1.alloc (.cells #[.int .i64 16, .int .i64 (regN d6 : Int), .slice ta (wrN d6).length tc, .int .i64 (rdN d6 : Int)] 31)) := x1.alloc _
  have Fd : Hid (HV (w1.alloc (.cells #[.int .i64 16, .int .i64 (regN d6 : Int), .slice ta (wrN d6).length tc, .int .i64 (rdN d6 : Int)] 31)) nd [.int .i64 d6.addr, .int .i64 d6.id, .bool d6.want, .int .i64 d6.per, .int .i64 d6.st, .int .i64 d6.fails, .bool d6.tried, .int .i64 d6.left, .int .i64 d6.bad]) := Fd.out.ext x2
  have Ft : Hid (HV (w1.alloc (.cells #[.int .i64 16, .int .i64 (regN d6 : Int), .slice ta (wrN d6).length tc, .int .i64 (rdN d6 : Int)] 31)) w1.heap.size [.int .i64 16, .int .i64 (regN d6 : Int), .slice ta (wrN d6).length tc, .int .i64 (rdN d6 : Int)]) := hv_at rfl
  have HT : Hid (BR (w1.alloc (.cells #[.int .i64 16, .int .i64 (regN d6 : Int), .slice ta (wrN d6).length tc, .int .i64 (rdN d6 : Int)] 31)) ta (wrN d6) ∧ ∀ k off, 0 < (wrN d6).length → ta = some ⟨k, off, none⟩ → lo ≤ k) := ⟨ht.out.1.ext ((Ext.refl w1).alloc _), fun k off h0 ea => Nat.le_trans HVS.out (ht.out.2 k off h0 ea)⟩
  have HB : Hid (Hb w (w1.alloc (.cells #[.int .i64 16, .int .i64 (regN d6 : Int), .slice ta (wrN d6).length tc, .int .i64 (rdN d6 : Int)] 31)) y s lo) := HB.out.ext x2
  generalize (w1.alloc (.cells #[.int .i64 16, .int .i64 (regN d6 : Int), .slice ta (wrN d6).length tc, .int .i64 (rdN d6 : Int)] 31)) = w2 at *
  generalize w1.heap.size = nt at *
  clear x1 x2 ht HX HVS qd0 qd1 qd2 qd3 qd4 qd5 qd6 qd7 qd8
  have HDO : Hid (Calls Try.prog 27 #[.pointer (some ⟨y.b, 0, none⟩), .agg #[.int .i64 16, .int .i64 (regN d6 : Int), .slice ta (wrN d6).length tc, .int .i64 (rdN d6 : Int)]] w2 fun e w' => ∃ ra rc s2, e = .returned (.tuple #[.agg #[.int .i64 1, .slice ra (ansB d6 v).length rc], .int .i64 0]) ∧ Hid ((ansB d6 v).length ≤ rc ∧ RdY w' w2.heap.size ra (ansB d6 v)) ∧ Hid (B1 s2 (v.does (regN d6) (wrN d6) (rdN d6))) ∧ Hid (Bd y s2 w2 w')) := bw_do HJ6.out.1 HD.out.2.2.2.2.1 HB.out HS.out HT.out.1 HT.out.2
  have qt0 : w2.cell? ⟨nt, 0, none⟩ = some (.int .i64 16) := Ft.out.c 0 rfl
  have qt1 : w2.cell? ⟨nt, 1, none⟩ = some (.int .i64 (regN d6 : Int)) := Ft.out.c 1 rfl
  have qt2 : w2.cell? ⟨nt, 2, none⟩ = some (.slice ta (wrN d6).length tc) := Ft.out.c 2 rfl
  have qt3 : w2.cell? ⟨nt, 3, none⟩ = some (.int .i64 (rdN d6 : Int)) := Ft.out.c 3 rfl
  go_upto_region 33 with (go_at_call 27; refine HDO.out.mono ?_; rintro e w3 ⟨ra, rc, s2, rfl, hq, hs2, hBd⟩)
  have x4 : Ext w3 (w3.alloc (.cells #[.int .i64 1, .slice ra (ansB d6 v).length rc] 27)) := (Ext.refl w3).alloc _
  have Fd : Hid (HV (w3.alloc (.cells #[.int .i64 1, .slice ra (ansB d6 v).length rc] 27)) nd [.int .i64 d6.addr, .int .i64 d6.id, .bool d6.want, .int .i64 d6.per, .int .i64 d6.st, .int .i64 d6.fails, .bool d6.tried, .int .i64 d6.left, .int .i64 d6.bad]) := (HB.out.hv hBd.out Fd.out (.inr HLO.out.2.1)).ext x4
  have Fa : Hid (HV (w3.alloc (.cells #[.int .i64 1, .slice ra (ansB d6 v).length rc] 27)) w3.heap.size [.int .i64 1, .slice ra (ansB d6 v).length rc]) := hv_at rfl
  have HQ : Hid ((ansB d6 v).length ≤ rc ∧ RdY (w3.alloc (.cells #[.int .i64 1, .slice ra (ansB d6 v).length rc] 27)) 0 ra (ansB d6 v)) := ⟨hq.out.1, (hq.out.2.mono (Nat.zero_le _)).ext x4⟩
  have HB : Hid (Hb w (w3.alloc (.cells #[.int .i64 1, .slice ra (ansB d6 v).length rc] 27)) y s2 lo) := (HB.out.bd hBd.out).ext x4
  have HS : Hid (B1 s2 (v.turn false)) := by have h := hs2.out; rw [HJ6.out.2.2.1] at h; exact h
  generalize (w3.alloc (.cells #[.int .i64 1, .slice ra (ansB d6 v).length rc] 27)) = w4 at *
  generalize w3.heap.size = na at *
  clear x4 hq hs2 hBd HDO HT Ft qt0 qt1 qt2 qt3
  obtain ⟨D, hD⟩ : ∃ D, takeD d6 1 (ansB d6 v) = D := ⟨_, rfl⟩
  have hD0 : Hid (D.st = 0) := by show D.st = 0; rw [← hD]; exact HJ6.out.2.1
  have HTK : Hid (Calls Try.prog 19 #[.agg #[.int .i64 d6.addr, .int .i64 d6.id, .bool d6.want, .int .i64 d6.per, .int .i64 d6.st, .int .i64 d6.fails, .bool d6.tried, .int .i64 d6.left, .int .i64 d6.bad], .agg #[.int .i64 1, .slice ra (ansB d6 v).length rc]] w4 fun e w' => ∃ rb rd, e = .returned (.tuple #[.agg #[.int .i64 D.addr, .int .i64 D.id, .bool D.want, .int .i64 D.per, .int .i64 D.st, .int .i64 D.fails, .bool D.tried, .int .i64 D.left, .int .i64 D.bad], .slice rb (toldD d6 1 (ansB d6 v)).length rd, .bool false, .int .i64 0]) ∧ Hid (RawsAt (w4.heap.size + 3) (toldD d6 1 (ansB d6 v)) w' (.slice rb (toldD d6 1 (ansB d6 v)).length rd)) ∧ Ext w4 w') := by
    have h := bw_take (w := w4) (r := ra) (rc := rc) HJ6.out.1 HQ.out.1 HQ.out.2
    rw [hD] at h
    exact h
  clear hD HQ
  have qd0 : w4.cell? ⟨nd, 0, none⟩ = some (.int .i64 d6.addr) := Fd.out.c 0 rfl
  have qd1 : w4.cell? ⟨nd, 1, none⟩ = some (.int .i64 d6.id) := Fd.out.c 1 rfl
  have qd2 : w4.cell? ⟨nd, 2, none⟩ = some (.bool d6.want) := Fd.out.c 2 rfl
  have qd3 : w4.cell? ⟨nd, 3, none⟩ = some (.int .i64 d6.per) := Fd.out.c 3 rfl
  have qd4 : w4.cell? ⟨nd, 4, none⟩ = some (.int .i64 d6.st) := Fd.out.c 4 rfl
  have qd5 : w4.cell? ⟨nd, 5, none⟩ = some (.int .i64 d6.fails) := Fd.out.c 5 rfl
  have qd6 : w4.cell? ⟨nd, 6, none⟩ = some (.bool d6.tried) := Fd.out.c 6 rfl
  have qd7 : w4.cell? ⟨nd, 7, none⟩ = some (.int .i64 d6.left) := Fd.out.c 7 rfl
  have qd8 : w4.cell? ⟨nd, 8, none⟩ = some (.int .i64 d6.bad) := Fd.out.c 8 rfl
  have qa0 : w4.cell? ⟨na, 0, none⟩ = some (.int .i64 1) := Fa.out.c 0 rfl
  have qa1 : w4.cell? ⟨na, 1, none⟩ = some (.slice ra (ansB d6 v).length rc) := Fa.out.c 1 rfl
  go_upto_region 34 with (go_at_call 19; refine HTK.out.mono ?_; rintro e z5 ⟨rb, rd, rfl, hR5, x5⟩; have kd0 : z5.cell? ⟨nd, 0, none⟩ = some (.int .i64 d6.addr) := (Fd.out.ext x5).c 0 rfl; have kd1 : z5.cell? ⟨nd, 1, none⟩ = some (.int .i64 d6.id) := (Fd.out.ext x5).c 1 rfl; have kd2 : z5.cell? ⟨nd, 2, none⟩ = some (.bool d6.want) := (Fd.out.ext x5).c 2 rfl; have kd3 : z5.cell? ⟨nd, 3, none⟩ = some (.int .i64 d6.per) := (Fd.out.ext x5).c 3 rfl; have kd4 : z5.cell? ⟨nd, 4, none⟩ = some (.int .i64 d6.st) := (Fd.out.ext x5).c 4 rfl; have kd5 : z5.cell? ⟨nd, 5, none⟩ = some (.int .i64 d6.fails) := (Fd.out.ext x5).c 5 rfl; have kd6 : z5.cell? ⟨nd, 6, none⟩ = some (.bool d6.tried) := (Fd.out.ext x5).c 6 rfl; have kd7 : z5.cell? ⟨nd, 7, none⟩ = some (.int .i64 d6.left) := (Fd.out.ext x5).c 7 rfl; have kd8 : z5.cell? ⟨nd, 8, none⟩ = some (.int .i64 d6.bad) := (Fd.out.ext x5).c 8 rfl; have zd0 : z5.frozen? ⟨nd, 0, none⟩ = false := (Fd.out.ext x5).f 0 rfl; have zd1 : z5.frozen? ⟨nd, 1, none⟩ = false := (Fd.out.ext x5).f 1 rfl; have zd2 : z5.frozen? ⟨nd, 2, none⟩ = false := (Fd.out.ext x5).f 2 rfl; have zd3 : z5.frozen? ⟨nd, 3, none⟩ = false := (Fd.out.ext x5).f 3 rfl; have zd4 : z5.frozen? ⟨nd, 4, none⟩ = false := (Fd.out.ext x5).f 4 rfl; have zd5 : z5.frozen? ⟨nd, 5, none⟩ = false := (Fd.out.ext x5).f 5 rfl; have zd6 : z5.frozen? ⟨nd, 6, none⟩ = false := (Fd.out.ext x5).f 6 rfl; have zd7 : z5.frozen? ⟨nd, 7, none⟩ = false := (Fd.out.ext x5).f 7 rfl; have zd8 : z5.frozen? ⟨nd, 8, none⟩ = false := (Fd.out.ext x5).f 8 rfl)
  have hn := HLO.out
  have t7 : Tn (fun k => k = nd) z5 (((((((((z5.setCell ⟨nd, 0, none⟩ (.int .i64 D.addr)).setCell ⟨nd, 1, none⟩ (.int .i64 D.id)).setCell ⟨nd, 2, none⟩ (.bool D.want)).setCell ⟨nd, 3, none⟩ (.int .i64 D.per)).setCell ⟨nd, 4, none⟩ (.int .i64 D.st)).setCell ⟨nd, 5, none⟩ (.int .i64 D.fails)).setCell ⟨nd, 6, none⟩ (.bool D.tried)).setCell ⟨nd, 7, none⟩ (.int .i64 D.left)).setCell ⟨nd, 8, none⟩ (.int .i64 D.bad)) := tn_nine z5 nd D
  have HB : Hid (Hb w (((((((((z5.setCell ⟨nd, 0, none⟩ (.int .i64 D.addr)).setCell ⟨nd, 1, none⟩ (.int .i64 D.id)).setCell ⟨nd, 2, none⟩ (.bool D.want)).setCell ⟨nd, 3, none⟩ (.int .i64 D.per)).setCell ⟨nd, 4, none⟩ (.int .i64 D.st)).setCell ⟨nd, 5, none⟩ (.int .i64 D.fails)).setCell ⟨nd, 6, none⟩ (.bool D.tried)).setCell ⟨nd, 7, none⟩ (.int .i64 D.left)).setCell ⟨nd, 8, none⟩ (.int .i64 D.bad)) y s2 lo) := (HB.out.ext x5).own t7 (fun k e => by omega)
  have Fd : Hid (HV (((((((((z5.setCell ⟨nd, 0, none⟩ (.int .i64 D.addr)).setCell ⟨nd, 1, none⟩ (.int .i64 D.id)).setCell ⟨nd, 2, none⟩ (.bool D.want)).setCell ⟨nd, 3, none⟩ (.int .i64 D.per)).setCell ⟨nd, 4, none⟩ (.int .i64 D.st)).setCell ⟨nd, 5, none⟩ (.int .i64 D.fails)).setCell ⟨nd, 6, none⟩ (.bool D.tried)).setCell ⟨nd, 7, none⟩ (.int .i64 D.left)).setCell ⟨nd, 8, none⟩ (.int .i64 D.bad)) nd [.int .i64 D.addr, .int .i64 D.id, .bool D.want, .int .i64 D.per, .int .i64 D.st, .int .i64 D.fails, .bool D.tried, .int .i64 D.left, .int .i64 D.bad]) := (Fd.out.ext x5).nine D
  generalize (((((((((z5.setCell ⟨nd, 0, none⟩ (.int .i64 D.addr)).setCell ⟨nd, 1, none⟩ (.int .i64 D.id)).setCell ⟨nd, 2, none⟩ (.bool D.want)).setCell ⟨nd, 3, none⟩ (.int .i64 D.per)).setCell ⟨nd, 4, none⟩ (.int .i64 D.st)).setCell ⟨nd, 5, none⟩ (.int .i64 D.fails)).setCell ⟨nd, 6, none⟩ (.bool D.tried)).setCell ⟨nd, 7, none⟩ (.int .i64 D.left)).setCell ⟨nd, 8, none⟩ (.int .i64 D.bad)) = z5s at *
  clear t7 hn x5 kd0 zd0 kd1 zd1 kd2 zd2 kd3 zd3 kd4 zd4 kd5 zd5 kd6 zd6 kd7 zd7 kd8 zd8
  clear HTK hR5 Fa qd0 qd1 qd2 qd3 qd4 qd5 qd6 qd7 qd8 qa0 qa1
  have HDV : Hid (Calls Try.prog 29 #[.pointer (some ⟨y.b, 0, none⟩), .int .i64 16] z5s fun e w' => ∃ c0 c2 c3 c4 c5 : Int, e = .returned (.tuple #[.agg #[.int .i64 c0, .bool false, .int .i64 c2, .int .i64 c3, .int .i64 c4, .int .i64 c5], .int .i64 0]) ∧ Ext z5s w') := by
    have h := dev_any z5s HB.out.b 16
    rw [dev_b1 HS.out (show (v.turn false).addr = 16 from HD.out.2.2.2.2.1)] at h
    exact h.mono fun e w' ⟨h1, h2⟩ => ⟨_, _, _, _, _, h1, h2⟩
  go_upto_region 35 with (go_at_call 29; refine HDV.out.mono ?_; rintro e w7 ⟨c0, c2, c3, c4, c5, rfl, x7⟩)
  have x8 : Ext z5s (w7.alloc (.cells #[.int .i64 c0, .bool false, .int .i64 c2, .int .i64 c3, .int .i64 c4, .int .i64 c5] 74)) := x7.alloc _
  have Fd : Hid (HV (w7.alloc (.cells #[.int .i64 c0, .bool false, .int .i64 c2, .int .i64 c3, .int .i64 c4, .int .i64 c5] 74)) nd [.int .i64 D.addr, .int .i64 D.id, .bool D.want, .int .i64 D.per, .int .i64 D.st, .int .i64 D.fails, .bool D.tried, .int .i64 D.left, .int .i64 D.bad]) := Fd.out.ext x8
  have Fv : Hid (HV (w7.alloc (.cells #[.int .i64 c0, .bool false, .int .i64 c2, .int .i64 c3, .int .i64 c4, .int .i64 c5] 74)) w7.heap.size [.int .i64 c0, .bool false, .int .i64 c2, .int .i64 c3, .int .i64 c4, .int .i64 c5]) := hv_at rfl
  have FX : Hid (Ext w (w7.alloc (.cells #[.int .i64 c0, .bool false, .int .i64 c2, .int .i64 c3, .int .i64 c4, .int .i64 c5] 74))) := HB.out.x.trans x8
  generalize (w7.alloc (.cells #[.int .i64 c0, .bool false, .int .i64 c2, .int .i64 c3, .int .i64 c4, .int .i64 c5] 74)) = w8 at *
  generalize w7.heap.size = nv at *
  have qd4 : w8.cell? ⟨nd, 4, none⟩ = some (.int .i64 0) := by have h := Fd.out.c 4 (v := .int .i64 D.st) rfl; have h9 := hD0.out; rw [h9] at h; exact h
  have qv1 : w8.cell? ⟨nv, 1, none⟩ = some (.bool false) := Fv.out.c 1 rfl
  clear x7 x8 HDV HB HS HD HJ6 HLO
  go_wp2_with (first | (go_at_call 11; refine (HNU.out _ _).mono ?_; rintro e wx ⟨rfl, hwx⟩; have hwy := hwx.symm; clear hwx; subst hwy) | (go_at_call 13; refine (HW.out _).mono ?_; rintro e w9 ⟨rfl, x9⟩))
  go_ret
  exact ⟨rfl, FX.out.trans x9⟩
end Go.Proofs.Ytdfhhfpfnkjbnaa
