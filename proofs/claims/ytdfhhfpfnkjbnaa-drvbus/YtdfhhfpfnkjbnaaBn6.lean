/- DrvBus: its second loop, and what is behind it. -/
import Derived.Test.YtdfhhfpfnkjbnaaBn5
namespace Go.Proofs.Ytdfhhfpfnkjbnaa
open Go.RowKit Go.Conc
set_option maxRecDepth 20000 in
set_option maxHeartbeats 16000000 in
theorem busloop2 (w wb : World) (y : BA) (s : Bs) (v : Dv) (d : Dr) (a : Option Addr) (L all : List Raw) (c : Nat) (N : Int) (lo np nd g gc : Nat) (bd cd : Code) (hbd : Try.f7.body = some bd) (hcd : cd = rgt [(), (), (), (), (), (), (), (), ()] bd) (z0 z2 z3 z5 z7 z8 z10 z11 z12 z13 z14 z15 z16 z17 z18 z19 z20 z21 z22 z23 z24 z25 z26 z27 z28 z29 z30 z31 z32 z33 z34 z35 z36 z37 z38 z39 z40 z41 z42 z43 z44 z45 z46 z47 z48 z49 z50 z51 z52 z53 z54 z55 z56 z57 z58 z59 z60 z61 z62 z63 z64 z65 z66 z67 z68 z69 z70 z71 z72 z73 z74 z75 z76 z77 z78 z79 z80 z81 z82 z83 z84 z85 z86 z87 z88 z89 z90 z91 z92 z93 z94 z95 z96 z97 z98 z99 z100 z101 z102 z103 z104 z105 z106 z107 z108 z109 z110 z111 z112 z113 z114 z115 z116 z117 z118 z119 z120 z121 z122 z123 z124 z125 z126 z127 z128 z129 z130 z131 z132 z133 z134 z135 z136 z137 z138 z139 z140 z141 z142 z143 z144 z145 z146 z147 z148 z149 z150 z151 z152 z153 z154 z155 z156 z157 z158 z159 z160 z161 z162 z163 z164 z165 z166 z167 z168 z169 z170 z171 z172 z173 z174 z175 z176 z177 z178 z179 z180 z181 z182 z183 z184 z185 z186 z187 z188 z189 z190 z191 z192 z193 z194 z195 z196 z197 z198 z199 z200 z201 z202 z203 z204 z205 z206 z207 z208 z209 z210 z211 z212 z213 z214 z215 z216 z217 z218 z219 z220 z221 z222 z223 z224 z225 z226 z227 z228 z229 z230 z231 z232 z233 z234 z235 z236 z237 z238 z239 z240 z241 z242 : Value)
    (HNU : Hid (∀ v w', Calls Try.prog 11 #[.int .i64 v] w' fun e w'' => e = .returned (.int .i64 v) ∧ w'' = w'))
    (HW : Hid (∀ w', Calls Try.prog 13 #[] w' fun e w'' => e = .returned (.bool true) ∧ Ext w' w''))
    (HB : Hid (Hb w wb y s lo)) (HS : Hid (B1 s v)) (HOK : Hid (okD d = true)) (HD : Hid (d.addr = 16 ∧ d.id = 49 ∧ d.bad = 0 ∧ (d.st = 4 ∨ d.st = 5) ∧ v.addr = 16 ∧ inn d.per 1 250 = true)) (Fd : Hid (HV wb nd [.int .i64 d.addr, .int .i64 d.id, .bool d.want, .int .i64 d.per, .int .i64 d.st, .int .i64 d.fails, .bool d.tried, .int .i64 d.left, .int .i64 d.bad])) (HLO : Hid (np < lo ∧ lo ≤ nd ∧ w.heap.size ≤ nd))
    (Fp : Hid (HV wb np [.slice a L.length c, .int .i64 N])) (HE : Hid (all = cyc L all.length ∧ 0 < all.length ∧ all.length ≤ 120)) (HL3 : Hid (0 < L.length ∧ L.length ≤ 300)) (HLR : Hid (∀ W, Ext w W → LR W a L))
    (HG : Hid (∀ j u, (rvs all)[j]? = some u → wb.cell? (Addr.add ⟨g, 0, none⟩ j) = some u)) :
    Code.wp Try.prog cd (bodyPost Try.prog Try.f7 fun e w' => e = .returned (.bool true) ∧ Ext w w') { tmps := #[z0, .pointer (some ⟨np, 0, none⟩), z2, z3, .pointer (some ⟨y.b, 0, none⟩), z5, .pointer (some ⟨nd, 0, none⟩), z7, z8, .slice (some ⟨g, 0, none⟩) all.length gc, z10, z11, z12, z13, z14, z15, z16, z17, z18, z19, z20, z21, z22, z23, z24, z25, z26, z27, z28, z29, z30, z31, z32, z33, z34, z35, z36, z37, z38, z39, z40, z41, z42, z43, z44, z45, z46, z47, z48, z49, z50, z51, z52, z53, z54, z55, z56, z57, z58, z59, z60, z61, z62, z63, z64, z65, z66, z67, z68, z69, z70, z71, z72, z73, z74, z75, z76, z77, z78, z79, z80, z81, z82, z83, z84, z85, z86, z87, z88, z89, z90, z91, z92, z93, z94, z95, z96, z97, z98, z99, z100, z101, z102, z103, z104, z105, z106, z107, z108, z109, z110, z111, z112, z113, z114, z115, z116, z117, z118, z119, z120, z121, z122, z123, z124, z125, z126, z127, z128, z129, z130, z131, z132, z133, z134, z135, z136, z137, z138, z139, z140, z141, z142, z143, z144, z145, z146, z147, z148, z149, z150, z151, z152, z153, z154, z155, z156, z157, z158, z159, z160, z161, z162, z163, z164, z165, z166, z167, z168, z169, z170, z171, z172, z173, z174, z175, z176, z177, z178, z179, z180, z181, z182, z183, z184, z185, z186, z187, z188, z189, z190, z191, z192, z193, z194, z195, z196, z197, z198, z199, z200, z201, z202, z203, z204, z205, z206, z207, z208, z209, z210, z211, z212, z213, z214, z215, z216, z217, z218, z219, z220, z221, z222, z223, z224, z225, z226, z227, z228, z229, z230, z231, z232, z233, z234, z235, z236, z237, z238, z239, z240, z241, z242], defers := [] } wb := by
  subst hcd
  simp only [Try.f7] at hbd
  injection hbd with hbd
  subst hbd
  simp only [rgt]
  show (let Q : Exit → Act → World → Prop := bodyPost Try.prog Try.f7 fun e w' => e = .returned (.bool true) ∧ Ext w w'; Code.wp Try.prog _ Q _ _)
  intro Q
  go_upto_region 25 with fail
  go_wp2_with fail
  rename_i K hK
  have HK0 : Hid (∀ (a : Act) (w : World), Code.wp Try.prog _ _ a w → K a w) := hK
  clear hK
  go_loopw [20] (fun vj wz => ∃ j : Nat, j ≤ all.length ∧ vj = .int .i64 j ∧ Hid (Ext wb wz)) (fun vj _ => all.length - (intOf vj).toNat)
  case atStart => exact ⟨0, Nat.zero_le _, rfl, Ext.refl _⟩
  case round =>
    obtain ⟨j, hj, rfl, X⟩ := hrel
    by_cases hjl : j < all.length
    · have hjl' : (j : Int) < (all.length : Int) := by omega
      have hLp : ¬ (L.length : Int) = 0 := by have := HL3.out.1; omega
      have hm : (j : Int) % (L.length : Int) = ((j % L.length : Nat) : Int) := (Int.natCast_emod j L.length).symm
      have hml : j % L.length < L.length := Nat.mod_lt _ HL3.out.1
      obtain ⟨f0, f1, f2, f3⟩ := rvs_four all j hjl
      rw [told_at HE.out.1 hjl] at f0 f1 f2 f3
      obtain ⟨lb, lo2, rfl, hc4⟩ := (HLR.out wb HB.out.x) (j % L.length) hml
      obtain ⟨c0, c1, c2, c3⟩ := hc4
      generalize smp L (j % L.length) = r at *
      generalize j % L.length = jm at *
      have hml' : (jm : Int) < (L.length : Int) := by omega
      have k0 : wr.cell? ⟨g, j * 4, none⟩ = some (.int .i64 r.x) := X.out.keepc (by rw [← add_at]; exact HG.out _ _ f0)
      have m0 : wr.cell? ⟨lb, lo2 + jm * 4, none⟩ = some (.int .i64 r.x) := X.out.keepc c0
      have k1 : wr.cell? ⟨g, j * 4 + 1, none⟩ = some (.int .i64 r.y) := X.out.keepc (by rw [← add_at]; exact HG.out _ _ f1)
      have m1 : wr.cell? ⟨lb, lo2 + jm * 4 + 1, none⟩ = some (.int .i64 r.y) := X.out.keepc c1
      have k2 : wr.cell? ⟨g, j * 4 + 2, none⟩ = some (.int .i64 r.z) := X.out.keepc (by rw [← add_at]; exact HG.out _ _ f2)
      have m2 : wr.cell? ⟨lb, lo2 + jm * 4 + 2, none⟩ = some (.int .i64 r.z) := X.out.keepc c2
      have k3 : wr.cell? ⟨g, j * 4 + 3, none⟩ = some (.int .i64 r.t) := X.out.keepc (by rw [← add_at]; exact HG.out _ _ f3)
      have m3 : wr.cell? ⟨lb, lo2 + jm * 4 + 3, none⟩ = some (.int .i64 r.t) := X.out.keepc c3
      have qp0 : wr.cell? ⟨np, 0, none⟩ = some (.slice (some ⟨lb, lo2, none⟩) L.length c) := X.out.keepc (Fp.out.c 0 rfl)
      clear f0 f1 f2 f3 c0 c1 c2 c3 hml
      have hwj : wrap64 ((j : Int) + 1) = (j : Int) + 1 := wr64_le (by omega) (by have := HE.out.2.2; omega)
      go_upto_region 28 with fail
      go_quiet (fail)
      all_goals
        go_wp2_with fail
        go_roundw
        case measure => exact lt_meas hjl hwj
        case rel => exact ⟨j + 1, by omega, by go_num, Ext.trans X.out (drewN_ext _)⟩
    · have hk : j = all.length := by omega
      subst hk
      have hpos : (0 : Int) < (all.length : Int) := by have := HE.out.2.1; omega
      have HB : Hid (Hb w wr y s lo) := HB.out.ext X.out
      have Fd : Hid (HV wr nd [.int .i64 d.addr, .int .i64 d.id, .bool d.want, .int .i64 d.per, .int .i64 d.st, .int .i64 d.fails, .bool d.tried, .int .i64 d.left, .int .i64 d.bad]) := Fd.out.ext X.out
      clear HG Fp hj hjl
      go_wp2_with fail
      refine HK0.out _ _ ?_
      exact bustail w wr y s v d lo np nd all.length g gc _ _ rfl rfl _ _ _ _ _ _ _ _ _ _ _ _ _ _ _ _ _ _ _ _ _ _ _ _ _ _ _ _ _ _ _ _ _ _ _ _ _ _ _ _ _ _ _ _ _ _ _ _ _ _ _ _ _ _ _ _ _ _ _ _ _ _ _ _ _ _ _ _ _ _ _ _ _ _ _ _ _ _ _ _ _ _ _ _ _ _ _ _ _ _ _ _ _ _ _ _ _ _ _ _ _ _ _ _ _ _ _ _ _ _ _ _ _ _ _ _ _ _ _ _ _ _ _ _ _ _ _ _ _ _ _ _ _ _ _ _ _ _ _ _ _ _ _ _ _ _ _ _ _ _ _ _ _ _ _ _ _ _ _ _ _ _ _ _ _ _ _ _ _ _ _ _ _ _ _ _ _ _ _ _ _ _ _ _ _ _ _ _ _ _ _ _ _ _ _ _ _ _ _ _ _ _ _ _ _ _ _ _ _ _ _ _ _ _ _ _ _ _ _ _ _ _ _ _ _ _ _ _ _ _ _ _ _ _ _ _ _ _ _ HNU HW HB HS HOK HD Fd HLO hpos
end Go.Proofs.Ytdfhhfpfnkjbnaa
