/- BusExact: its main loop. -/
import Derived.Test.YtfgljkeohoffiaaBx3
import Derived.Test.YtfgljkeohoffiaaGx
import Derived.Test.YtfgljkeohoffiaaYa
namespace Go.Proofs.Ytfgljkeohoffiaa
open Go.RowKit Go.Conc
/-- a device's variable -/
def D6 (w : World) (k : Nat) (a : Int) (o : Bool) (p q l n : Int) : Prop :=
  w.cell? ⟨k, 0, none⟩ = some (.int .i64 a) ∧ w.cell? ⟨k, 1, none⟩ = some (.bool o) ∧ w.cell? ⟨k, 2, none⟩ = some (.int .i64 p) ∧ w.cell? ⟨k, 3, none⟩ = some (.int .i64 q) ∧ w.cell? ⟨k, 4, none⟩ = some (.int .i64 l) ∧ w.cell? ⟨k, 5, none⟩ = some (.int .i64 n)
theorem d6_new {w : World} {a : Int} {o : Bool} {p q l n : Int} : D6 (w.alloc (.cells #[.int .i64 a, .bool o, .int .i64 p, .int .i64 q, .int .i64 l, .int .i64 n] 51)) w.heap.size a o p q l n := by
  refine ⟨?_, ?_, ?_, ?_, ?_, ?_⟩ <;> simp [go_sem]
theorem D6.ext {w w' : World} {k : Nat} {a : Int} {o : Bool} {p q l n : Int} (h : D6 w k a o p q l n) (x : Ext w w') : D6 w' k a o p q l n :=
  ⟨x.keepc h.1, x.keepc h.2.1, x.keepc h.2.2.1, x.keepc h.2.2.2.1, x.keepc h.2.2.2.2.1, x.keepc h.2.2.2.2.2⟩
theorem dev_both (s : Bs) (addr : Int) : ∃ (a : Int) (o : Bool) (p q l n : Int), (devV s addr = .tuple #[.agg #[.int .i64 a, .bool o, .int .i64 p, .int .i64 q, .int .i64 l, .int .i64 n], .int .i64 0] ∧ rdevV s addr = .tuple #[.agg #[.int .i64 a, .bool o, .int .i64 p, .int .i64 q, .int .i64 l, .int .i64 n], .bool true]) ∨ (devV s addr = .tuple #[.agg #[.int .i64 a, .bool o, .int .i64 p, .int .i64 q, .int .i64 l, .int .i64 n], .int .i64 5] ∧ rdevV s addr = .tuple #[.agg #[.int .i64 a, .bool o, .int .i64 p, .int .i64 q, .int .i64 l, .int .i64 n], .bool false]) := by
  unfold devV rdevV
  cases fnd s.D s.n addr with
  | none => exact ⟨0, false, 0, 0, 0, 0, .inr ⟨rfl, rfl⟩⟩
  | some i => exact ⟨_, _, _, _, _, _, .inl ⟨rfl, rfl⟩⟩
theorem a6_fresh {w : World} {x : Ac} {wa : Option Addr} {wc : Nat} : A6 (w.alloc (.cells #[.int .i64 x.do_, .int .i64 x.addr, .int .i64 x.reg, .slice wa x.wr.length wc, .int .i64 x.rd, .int .i64 x.n] 46)) w.heap.size 0 x wa wc := by
  refine ⟨?_, ?_, ?_, ?_, ?_, ?_⟩ <;> simp [go_sem]
theorem lt_meas40 {k : Nat} (h : k < 40) : 40 - (intOf (.int .i64 ((k : Int) + 1))).toNat < 40 - (intOf (.int .i64 (k : Int))).toNat := by
  simp [intOf]; omega
set_option maxRecDepth 20000 in
set_option maxHeartbeats 16000000 in
theorem bx_main (w0 w : World) (B : Nat) (y : BA) (am : Option Addr) (lm cm : Nat) (af : Option Addr) (lf cf : Nat) (al : Option Addr) (L : List Ac) (cl : Nat) (bd cd : Code) (hbd : Try.f3.body = some bd) (hcd : cd = rgt [(), (), (), (), (), (), ()] bd) (z0 z2 z3 z5 z6 z7 z8 z9 z10 z11 z12 z13 z14 z15 z16 z17 z18 z19 z20 z21 z22 z23 z24 z25 z26 z27 z28 z29 z30 z31 z32 z33 z34 z35 z36 z37 z38 z39 z40 z41 z42 z43 z44 z45 z46 z47 z48 z49 z50 z51 z52 z53 z54 z55 z56 z57 z58 z59 z60 z61 z62 z63 z64 z65 z66 z67 z68 z69 z70 z71 z72 z73 z74 z75 z76 z77 z78 z79 z80 z81 z82 z83 z84 z85 z86 z87 z88 z89 z90 z91 z92 z93 z94 z95 z96 z97 z98 z99 z100 z101 z102 z103 z104 z105 z106 z107 z108 z109 z110 z111 z112 z113 z114 z115 z116 z117 z118 z119 z120 z121 z122 z123 z124 z125 z126 z127 z128 z129 z130 z131 z132 z133 z134 z135 z136 z137 z138 z139 z140 z141 z142 z143 z144 z145 z146 z147 z148 z149 z150 z151 z152 z153 z154 z155 z156 z157 z158 z159 z160 z161 z162 z163 z164 z165 z166 z167 z168 z169 z170 z171 z172 z173 z174 z175 z176 z177 z178 z179 z180 z181 z182 z183 z184 z185 z186 z187 z188 z189 z190 z191 z192 z193 z194 z195 z196 z197 z198 z199 z200 z201 z202 z203 z204 z205 : Value) (Po : Ending → World → Prop)
    (HS : Hid (SC w0 B am lm cm af lf cf al L.length cl)) (HA : Hid (ARs w0 al L)) (hx : Ext w0 w) (HN : Hid (Calls Try.prog 10 #[.slice am lm cm, .slice af lf cf] w fun e w' => ∃ x : RA, e = .returned (.pointer (some ⟨x.b, 0, none⟩)) ∧ ∃ own s, Hid (BE w0 w' w.heap.size w'.heap.size y x own s s))) (HP : Hid (∀ w', Ext w0 w' → Po (.returned (.bool true)) w')) :
    Code.wp Try.prog cd (bodyPost Try.prog Try.f3 Po) { tmps := #[z0, .pointer (some ⟨B, 0, none⟩), z2, z3, .pointer (some ⟨y.b, 0, none⟩), z5, z6, z7, z8, z9, z10, z11, z12, z13, z14, z15, z16, z17, z18, z19, z20, z21, z22, z23, z24, z25, z26, z27, z28, z29, z30, z31, z32, z33, z34, z35, z36, z37, z38, z39, z40, z41, z42, z43, z44, z45, z46, z47, z48, z49, z50, z51, z52, z53, z54, z55, z56, z57, z58, z59, z60, z61, z62, z63, z64, z65, z66, z67, z68, z69, z70, z71, z72, z73, z74, z75, z76, z77, z78, z79, z80, z81, z82, z83, z84, z85, z86, z87, z88, z89, z90, z91, z92, z93, z94, z95, z96, z97, z98, z99, z100, z101, z102, z103, z104, z105, z106, z107, z108, z109, z110, z111, z112, z113, z114, z115, z116, z117, z118, z119, z120, z121, z122, z123, z124, z125, z126, z127, z128, z129, z130, z131, z132, z133, z134, z135, z136, z137, z138, z139, z140, z141, z142, z143, z144, z145, z146, z147, z148, z149, z150, z151, z152, z153, z154, z155, z156, z157, z158, z159, z160, z161, z162, z163, z164, z165, z166, z167, z168, z169, z170, z171, z172, z173, z174, z175, z176, z177, z178, z179, z180, z181, z182, z183, z184, z185, z186, z187, z188, z189, z190, z191, z192, z193, z194, z195, z196, z197, z198, z199, z200, z201, z202, z203, z204, z205], defers := [] } w := by
  subst hcd
  simp only [Try.f3] at hbd
  injection hbd with hbd
  subst hbd
  simp only [rgt]
  show (let Q : Exit → Act → World → Prop := bodyPost Try.prog Try.f3 Po; Code.wp Try.prog _ Q _ _)
  intro Q
  have HNU : Hid (∀ v w', Calls Try.prog 8 #[.int .i64 v] w' fun e w'' => e = .returned (.int .i64 v) ∧ w'' = w') := num_any
  obtain ⟨p0, p1, p2⟩ := HS.out.ext hx
  clear hx
  go_upto_region 18 with (go_at_call 10; refine HN.out.mono ?_; rintro e w4 ⟨x, rfl, own, s, H0⟩)
  clear p0 p1 p2 HN
  generalize w4.heap.size = U at *
  generalize w.heap.size = S at *
  go_wp2_with fail
  go_loopw [9, 10, 11, 12, 13, 14, 15, 16, 17, 18, 19] (fun i _ _ _ _ _ _ _ _ _ _ wi => ∃ (k : Nat) (own' : Nat → Prop) (s' : Bs), k ≤ L.length ∧ k ≤ 40 ∧ i = .int .i64 k ∧ Hid (BE w0 wi S U y x own' s' s')) (fun i _ _ _ _ _ _ _ _ _ _ _ => 40 - (intOf i).toNat)
  case atStart => exact ⟨0, own, s, Nat.zero_le _, Nat.zero_le _, rfl, H0⟩
  case round =>
    clear H0
    clear own s
    obtain ⟨k, own, s, hk, hk40, rfl, hI⟩ := hrel
    have xw0 := hI.out.e
    obtain ⟨p0, p1, p2⟩ := HS.out.ext xw0
    by_cases hlt : k < L.length
    · have hlti : (k : Int) < (L.length : Int) := by omega
      by_cases h40 : k < 40
      · have h40i : (k : Int) < 40 := by omega
        obtain ⟨ba, oa, wa, wc, rfl, ha6, hbr0, hwl, hn1, hn2, hwk⟩ := HA.out k hlt
        have hbr := hbr0.ext xw0
        obtain ⟨d0, d1, d2, d3, d4, d5⟩ := ha6.ext xw0
        clear hbr0 ha6
        generalize ga L k = xa at *
        obtain ⟨dd, ad, rg, wl, rd, nn⟩ := xa
        simp only at *
        have x1 : Ext wr (wr.alloc (.cells #[.int .i64 dd, .int .i64 ad, .int .i64 rg, .slice wa wl.length wc, .int .i64 rd, .int .i64 nn] 46)) := (Ext.refl wr).alloc _
        have hV : A6 (wr.alloc (.cells #[.int .i64 dd, .int .i64 ad, .int .i64 rg, .slice wa wl.length wc, .int .i64 rd, .int .i64 nn] 46)) wr.heap.size 0 ⟨dd, ad, rg, wl, rd, nn⟩ wa wc := a6_fresh (w := wr) (x := ⟨dd, ad, rg, wl, rd, nn⟩)
        have HV : Hid (A6 (wr.alloc (.cells #[.int .i64 dd, .int .i64 ad, .int .i64 rg, .slice wa wl.length wc, .int .i64 rd, .int .i64 nn] 46)) wr.heap.size 0 ⟨dd, ad, rg, wl, rd, nn⟩ wa wc) := hV
        have H1 : Hid (BE w0 (wr.alloc (.cells #[.int .i64 dd, .int .i64 ad, .int .i64 rg, .slice wa wl.length wc, .int .i64 rd, .int .i64 nn] 46)) S U y x own s s) := hI.out.ext x1
        have HB1 : Hid (BR (wr.alloc (.cells #[.int .i64 dd, .int .i64 ad, .int .i64 rg, .slice wa wl.length wc, .int .i64 rd, .int .i64 nn] 46)) wa wl) := hbr.ext x1
        have HWK : Hid (∀ k off, 0 < wl.length → wa = some ⟨k, off, none⟩ → k < w0.heap.size) := fun k off h0 e => hwk h0 k off e
        obtain ⟨q8, hq8, HW8⟩ := within_any dd 8 (by omega) (by omega)
        have HV8 : Hid (∀ w, Calls Try.prog 11 #[.int .i64 dd, .int .i64 8] w fun e w' => e = .returned (.int .i64 q8) ∧ w' = w) := HW8
        have HUV : Hid (U ≤ wr.heap.size ∧ ∀ k, own k → k < wr.heap.size) := ⟨hI.out.u, hI.out.r.lt⟩
        clear HW8 hbr hwk
        go_upto_region 22 with fail
        clear p0 p1 p2 d0 d1 d2 d3 d4 d5
        obtain ⟨v0, v1, v2, v3, v4, v5⟩ := hV
        dsimp only at v0 v1 v2 v3 v4 v5
        generalize wr.alloc (.cells #[.int .i64 dd, .int .i64 ad, .int .i64 rg, .slice wa wl.length wc, .int .i64 rd, .int .i64 nn] 46) = w1 at *
        generalize wr.heap.size = VB at *
        clear hI x1 xw0
        by_cases h6 : q8 = 6
        · subst h6
          by_cases hneg : nn < 0
          · have hnb : decide (nn < 0) = true := by simpa using hneg
            have HT1 := tick_bad w1 y.b nn (by omega)
            go_upto_region 39 with (go_at_call_of 11 (Value.int IntKind.i64 8); refine (HV8.out _).mono ?_; rintro e wx ⟨rfl, hwx⟩; have hwy := hwx.symm; clear hwx; subst hwy)
            go_wp2_with (first | (go_at_call 13; refine HT1.mono ?_; rintro e wx ⟨rfl, hwx⟩; have hwy := hwx.symm; clear hwx; subst hwy) | (go_at_call 8; refine (HNU.out _ _).mono ?_; rintro e wx ⟨rfl, hwx⟩; have hwy := hwx.symm; clear hwx; subst hwy) | (go_at_call 21; refine (be_count H1.out).1.mono ?_; rintro e wx ⟨rfl, hwx⟩; have hwy := hwx.symm; clear hwx; subst hwy) | (go_at_call 22; refine (be_count H1.out).2.mono ?_; rintro e wx ⟨rfl, hwx⟩; have hwy := hwx.symm; clear hwx; subst hwy))
            go_roundw
            case measure => exact lt_meas40 h40
            case rel => exact ⟨k + 1, own, s, by omega, by omega, by go_num, H1⟩
          · have hnb : decide (nn < 0) = false := by simpa using hneg
            by_cases hbig : 1000 < nn
            · have hbb : decide (1000 < nn) = true := by simpa using hbig
              have HT1 := tick_bad w1 y.b nn (by omega)
              go_upto_region 39 with (go_at_call_of 11 (Value.int IntKind.i64 8); refine (HV8.out _).mono ?_; rintro e wx ⟨rfl, hwx⟩; have hwy := hwx.symm; clear hwx; subst hwy)
              go_wp2_with (first | (go_at_call 13; refine HT1.mono ?_; rintro e wx ⟨rfl, hwx⟩; have hwy := hwx.symm; clear hwx; subst hwy) | (go_at_call 8; refine (HNU.out _ _).mono ?_; rintro e wx ⟨rfl, hwx⟩; have hwy := hwx.symm; clear hwx; subst hwy) | (go_at_call 21; refine (be_count H1.out).1.mono ?_; rintro e wx ⟨rfl, hwx⟩; have hwy := hwx.symm; clear hwx; subst hwy) | (go_at_call 22; refine (be_count H1.out).2.mono ?_; rintro e wx ⟨rfl, hwx⟩; have hwy := hwx.symm; clear hwx; subst hwy))
              go_roundw
              case measure => exact lt_meas40 h40
              case rel => exact ⟨k + 1, own, s, by omega, by omega, by go_num, H1⟩
            · have hbb : decide (1000 < nn) = false := by simpa using hbig
              obtain ⟨nt, rfl⟩ : ∃ q : Nat, nn = (q : Int) := ⟨nn.toNat, by omega⟩
              have hnt : nt ≤ 1000 := by omega
              have HRT := be_rtick_at H1.out nt hnt HV.out (fun o => by have := HUV.out.2 _ o; omega)
              go_upto_region 39 with (first | (go_at_call_of 11 (Value.int IntKind.i64 8); refine (HV8.out _).mono ?_; rintro e wx ⟨rfl, hwx⟩; have hwy := hwx.symm; clear hwx; subst hwy) | (go_at_call 12; refine HRT.mono ?_; rintro e w2 ⟨ur, rfl, ⟨own2, h2⟩, a2⟩))
              clear v0 v1 v2 v3 v4 v5
              obtain ⟨v0, v1, v2, v3, v4, v5⟩ := a2
              dsimp only at v0 v1 v2 v3 v4 v5
              have HBT := be_btick nt h2.out hnt
              go_upto_region 46 with (first | (go_at_call 13; refine HBT.mono ?_; rintro e w3 ⟨rfl, h3⟩) | (go_at_call 8; refine (HNU.out _ _).mono ?_; rintro e wx ⟨rfl, hwx⟩; have hwy := hwx.symm; clear hwx; subst hwy))
              go_wp2_with (first | (go_at_call 21; refine (be_count h3.out).1.mono ?_; rintro e wx ⟨rfl, hwx⟩; have hwy := hwx.symm; clear hwx; subst hwy) | (go_at_call 22; refine (be_count h3.out).2.mono ?_; rintro e wx ⟨rfl, hwx⟩; have hwy := hwx.symm; clear hwx; subst hwy))
              go_roundw
              case measure => exact lt_meas40 h40
              case rel => exact ⟨k + 1, own2, tickB s nt, by omega, by omega, by go_num, h3⟩
        · by_cases h7 : q8 = 7
          · subst h7
            have HB := dev_any w1 H1.out.b ad
            obtain ⟨a1, o1, p1, q1, l1, n1, hdev⟩ := dev_both s ad
            have h7b : ((7 : Nat) : Int) = 7 := rfl
            rcases hdev with ⟨eb, er⟩ | ⟨eb, er⟩
            · rw [eb] at HB
              go_upto_region 43 with (first | (go_at_call_of 11 (Value.int IntKind.i64 8); refine (HV8.out _).mono ?_; rintro e wx ⟨rfl, hwx⟩; have hwy := hwx.symm; clear hwx; subst hwy) | (go_at_call 14; refine HB.mono ?_; rintro e w2 ⟨rfl, y2⟩))
              have x2 : Ext w2 (w2.alloc (.cells #[.int .i64 a1, .bool o1, .int .i64 p1, .int .i64 q1, .int .i64 l1, .int .i64 n1] 51)) := (Ext.refl w2).alloc _
              have H2 : Hid (BE w0 (w2.alloc (.cells #[.int .i64 a1, .bool o1, .int .i64 p1, .int .i64 q1, .int .i64 l1, .int .i64 n1] 51)) S U y x own s s) := (H1.out.ext y2).ext x2
              have D2 : D6 (w2.alloc (.cells #[.int .i64 a1, .bool o1, .int .i64 p1, .int .i64 q1, .int .i64 l1, .int .i64 n1] 51)) w2.heap.size a1 o1 p1 q1 l1 n1 := d6_new
              have V2 : A6 (w2.alloc (.cells #[.int .i64 a1, .bool o1, .int .i64 p1, .int .i64 q1, .int .i64 l1, .int .i64 n1] 51)) VB 0 ⟨dd, ad, rg, wl, rd, nn⟩ wa wc := (HV.out.ext y2).ext x2
              generalize w2.alloc (.cells #[.int .i64 a1, .bool o1, .int .i64 p1, .int .i64 q1, .int .i64 l1, .int .i64 n1] 51) = W2 at *
              generalize w2.heap.size = B2 at *
              have HD2 : Hid (D6 W2 B2 a1 o1 p1 q1 l1 n1) := D2
              clear x2 y2 v0 v1 v2 v3 v4 v5 D2
              obtain ⟨v0, v1, v2, v3, v4, v5⟩ := V2
              dsimp only at v0 v1 v2 v3 v4 v5
              have HR := rdev_any H2.out.r ad
              rw [er] at HR
              go_upto_region 44 with (go_at_call 15; refine HR.mono ?_; rintro e w3 ⟨rfl, y3⟩)
              have x3 : Ext w3 (w3.alloc (.cells #[.int .i64 a1, .bool o1, .int .i64 p1, .int .i64 q1, .int .i64 l1, .int .i64 n1] 51)) := (Ext.refl w3).alloc _
              have H3 : Hid (BE w0 (w3.alloc (.cells #[.int .i64 a1, .bool o1, .int .i64 p1, .int .i64 q1, .int .i64 l1, .int .i64 n1] 51)) S U y x own s s) := (H2.out.ext y3).ext x3
              have D3 : D6 (w3.alloc (.cells #[.int .i64 a1, .bool o1, .int .i64 p1, .int .i64 q1, .int .i64 l1, .int .i64 n1] 51)) w3.heap.size a1 o1 p1 q1 l1 n1 := d6_new
              have D2 := (HD2.out.ext y3).ext x3
              generalize w3.alloc (.cells #[.int .i64 a1, .bool o1, .int .i64 p1, .int .i64 q1, .int .i64 l1, .int .i64 n1] 51) = W3 at *
              generalize w3.heap.size = B3 at *
              obtain ⟨d0, d1, d2, d3, d4, d5⟩ := D2
              obtain ⟨e0, e1, e2, e3, e4, e5⟩ := D3
              clear x3 y3 v0 v1 v2 v3 v4 v5
              go_wp2_with (first | (go_at_call 8; refine (HNU.out _ _).mono ?_; rintro e wx ⟨rfl, hwx⟩; have hwy := hwx.symm; clear hwx; subst hwy) | (go_at_call 21; refine (be_count H3.out).1.mono ?_; rintro e wx ⟨rfl, hwx⟩; have hwy := hwx.symm; clear hwx; subst hwy) | (go_at_call 22; refine (be_count H3.out).2.mono ?_; rintro e wx ⟨rfl, hwx⟩; have hwy := hwx.symm; clear hwx; subst hwy))
              go_roundw
              case measure => exact lt_meas40 h40
              case rel => exact ⟨k + 1, own, s, by omega, by omega, by go_num, H3⟩
            · rw [eb] at HB
              go_upto_region 43 with (first | (go_at_call_of 11 (Value.int IntKind.i64 8); refine (HV8.out _).mono ?_; rintro e wx ⟨rfl, hwx⟩; have hwy := hwx.symm; clear hwx; subst hwy) | (go_at_call 14; refine HB.mono ?_; rintro e w2 ⟨rfl, y2⟩))
              have x2 : Ext w2 (w2.alloc (.cells #[.int .i64 a1, .bool o1, .int .i64 p1, .int .i64 q1, .int .i64 l1, .int .i64 n1] 51)) := (Ext.refl w2).alloc _
              have H2 : Hid (BE w0 (w2.alloc (.cells #[.int .i64 a1, .bool o1, .int .i64 p1, .int .i64 q1, .int .i64 l1, .int .i64 n1] 51)) S U y x own s s) := (H1.out.ext y2).ext x2
              have D2 : D6 (w2.alloc (.cells #[.int .i64 a1, .bool o1, .int .i64 p1, .int .i64 q1, .int .i64 l1, .int .i64 n1] 51)) w2.heap.size a1 o1 p1 q1 l1 n1 := d6_new
              have V2 : A6 (w2.alloc (.cells #[.int .i64 a1, .bool o1, .int .i64 p1, .int .i64 q1, .int .i64 l1, .int .i64 n1] 51)) VB 0 ⟨dd, ad, rg, wl, rd, nn⟩ wa wc := (HV.out.ext y2).ext x2
              generalize w2.alloc (.cells #[.int .i64 a1, .bool o1, .int .i64 p1, .int .i64 q1, .int .i64 l1, .int .i64 n1] 51) = W2 at *
              generalize w2.heap.size = B2 at *
              have HD2 : Hid (D6 W2 B2 a1 o1 p1 q1 l1 n1) := D2
              clear x2 y2 v0 v1 v2 v3 v4 v5 D2
              obtain ⟨v0, v1, v2, v3, v4, v5⟩ := V2
              dsimp only at v0 v1 v2 v3 v4 v5
              have HR := rdev_any H2.out.r ad
              rw [er] at HR
              go_upto_region 44 with (go_at_call 15; refine HR.mono ?_; rintro e w3 ⟨rfl, y3⟩)
              have x3 : Ext w3 (w3.alloc (.cells #[.int .i64 a1, .bool o1, .int .i64 p1, .int .i64 q1, .int .i64 l1, .int .i64 n1] 51)) := (Ext.refl w3).alloc _
              have H3 : Hid (BE w0 (w3.alloc (.cells #[.int .i64 a1, .bool o1, .int .i64 p1, .int .i64 q1, .int .i64 l1, .int .i64 n1] 51)) S U y x own s s) := (H2.out.ext y3).ext x3
              have D3 : D6 (w3.alloc (.cells #[.int .i64 a1, .bool o1, .int .i64 p1, .int .i64 q1, .int .i64 l1, .int .i64 n1] 51)) w3.heap.size a1 o1 p1 q1 l1 n1 := d6_new
              have D2 := (HD2.out.ext y3).ext x3
              generalize w3.alloc (.cells #[.int .i64 a1, .bool o1, .int .i64 p1, .int .i64 q1, .int .i64 l1, .int .i64 n1] 51) = W3 at *
              generalize w3.heap.size = B3 at *
              obtain ⟨d0, d1, d2, d3, d4, d5⟩ := D2
              obtain ⟨e0, e1, e2, e3, e4, e5⟩ := D3
              clear x3 y3 v0 v1 v2 v3 v4 v5
              go_wp2_with (first | (go_at_call 8; refine (HNU.out _ _).mono ?_; rintro e wx ⟨rfl, hwx⟩; have hwy := hwx.symm; clear hwx; subst hwy) | (go_at_call 21; refine (be_count H3.out).1.mono ?_; rintro e wx ⟨rfl, hwx⟩; have hwy := hwx.symm; clear hwx; subst hwy) | (go_at_call 22; refine (be_count H3.out).2.mono ?_; rintro e wx ⟨rfl, hwx⟩; have hwy := hwx.symm; clear hwx; subst hwy))
              go_roundw
              case measure => exact lt_meas40 h40
              case rel => exact ⟨k + 1, own, s, by omega, by omega, by go_num, H3⟩
          · have h6b : ((q8 : Int) == 6) = false := beq_eq_false_iff_ne.2 (by omega)
            have h7b : ((q8 : Int) == 7) = false := beq_eq_false_iff_ne.2 (by omega)
            by_cases h300 : 300 < wl.length
            · have h3i : (300 : Int) < (wl.length : Int) := by omega
              have e1 := H1.out.e
              go_wp2_with (go_at_call_of 11 (Value.int IntKind.i64 8); refine (HV8.out _).mono ?_; rintro e wx ⟨rfl, hwx⟩; have hwy := hwx.symm; clear hwx; subst hwy)
              show Po (.returned (.bool true)) _
              exact HP.out _ e1
            · have h3i : ¬ (300 : Int) < (wl.length : Int) := by omega
              have HMT := maytx_any ad rg wa wl.length wc rd
              cases hok : okT ad rg wl.length rd
              · have HMF : Hid (∀ w, Calls Try.prog 17 #[txv ad rg wa wl.length wc rd] w fun e w' => e = .returned (.bool false) ∧ Ext w w') := fun w => by have h := HMT w hwl; rw [hok] at h; exact h
                have HDB := do_bad w1 y.b ad rg wa wl.length wc rd hwl hok
                clear HMT
                go_upto_region 26 with (first | (go_at_call_of 11 (Value.int IntKind.i64 8); refine (HV8.out _).mono ?_; rintro e wx ⟨rfl, hwx⟩; have hwy := hwx.symm; clear hwx; subst hwy) | (go_at_call 16; refine HDB.mono ?_; rintro e w2 ⟨rfl, y2⟩))
                have x2 : Ext w2 (w2.alloc ansC) := (Ext.refl w2).alloc _
                have x2b : Ext (w2.alloc ansC) ((w2.alloc ansC).alloc ansC) := (Ext.refl _).alloc _
                have A1 : ANs ((w2.alloc ansC).alloc ansC) w2.heap.size 0 (.slice none 0 0) := (ans_new rfl).ext x2b
                have A2 : ANs ((w2.alloc ansC).alloc ansC) (w2.heap.size + 1) 0 (.slice none 0 0) := ans_new (by simp)
                have H2 : Hid (BE w0 ((w2.alloc ansC).alloc ansC) S U y x own s s) := ((H1.out.ext y2).ext x2).ext x2b
                have V2 := ((HV.out.ext y2).ext x2).ext x2b
                clear v0 v1 v2 v3 v4 v5
                obtain ⟨v0, v1, v2, v3, v4, v5⟩ := V2
                dsimp only at v0 v1 v2 v3 v4 v5
                have HA1 : Hid (ANs ((w2.alloc ansC).alloc ansC) w2.heap.size 0 (.slice none 0 0)) := A1
                have HA2 : Hid (ANs ((w2.alloc ansC).alloc ansC) (w2.heap.size + 1) 0 (.slice none 0 0)) := A2
                clear x2 x2b y2 A1 A2
                go_upto_region 28 with fail
                generalize (w2.alloc ansC).alloc ansC = W2 at *
                generalize w2.heap.size + 1 = B3 at *
                generalize w2.heap.size = B2 at *
                go_upto_region 31 with (go_at_call 17; refine (HMF.out _).mono ?_; rintro e w3 ⟨rfl, y3⟩)
                clear v0 v1 v2 v3 v4 v5
                have H3 : Hid (BE w0 w3 S U y x own s s) := H2.out.ext y3
                obtain ⟨c0, c1⟩ := HA1.out.ext y3
                obtain ⟨d0, d1⟩ := HA2.out.ext y3
                have HEQ := eq_answer (l := []) 0 none 0 none 0 w3 (rdb_row (World.ownsRow_nil _ 0 _ _)) (rdb_row (World.ownsRow_nil _ 0 _ _)) (Nat.zero_le _)
                clear y3
                go_upto_region 33 with (first | (go_at_call 8; refine (HNU.out _ _).mono ?_; rintro e wx ⟨rfl, hwx⟩; have hwy := hwx.symm; clear hwx; subst hwy) | (go_at_call 19; refine HEQ.mono ?_; rintro e w4 ⟨rfl, y4⟩; have c2 := y4.keepc c1; have H4 : Hid (BE w0 w4 S U y x own s s) := H3.out.ext y4))
                go_upto_region 46 with (go_at_call 20; refine (be_nil H4.out).mono ?_; rintro e w5 ⟨⟨u5, rfl⟩, h5⟩)
                go_wp2_with (first | (go_at_call 21; refine (be_count h5.out).1.mono ?_; rintro e wx ⟨rfl, hwx⟩; have hwy := hwx.symm; clear hwx; subst hwy) | (go_at_call 22; refine (be_count h5.out).2.mono ?_; rintro e wx ⟨rfl, hwx⟩; have hwy := hwx.symm; clear hwx; subst hwy))
                go_roundw
                case measure => exact lt_meas40 h40
                case rel => exact ⟨k + 1, own, s, by omega, by omega, by go_num, h5⟩
              · obtain ⟨rgn, rfl⟩ : ∃ q : Nat, rg = (q : Int) := by
                  unfold okT at hok
                  simp only [Bool.and_eq_true, inn_iff] at hok
                  exact ⟨rg.toNat, by omega⟩
                obtain ⟨rdn, rfl, hrd⟩ : ∃ q : Nat, rd = (q : Int) ∧ q ≤ 128 := by
                  unfold okT at hok
                  simp only [Bool.and_eq_true] at hok
                  have h3 := hok.2
                  split at h3
                  · simp only [Bool.and_eq_true, decide_eq_true_eq] at h3
                    exact ⟨0, h3.2, by omega⟩
                  · rw [inn_iff] at h3
                    exact ⟨rd.toNat, by omega, by omega⟩
                have HMT2 : Hid (∀ w, Calls Try.prog 17 #[txv ad rgn wa wl.length wc rdn] w fun e w' => e = .returned (.bool true) ∧ Ext w w') := fun w => by have h := HMT w hwl; rw [hok] at h; exact h
                obtain ⟨st, D, s', hd⟩ : ∃ st D s', doB s ad rgn wl rdn = (st, D, s') := ⟨_, _, _, rfl⟩
                have HD := be_bdo hd H1.out wa wc hwl hok HB1.out HWK.out HV.out (fun o => by have := (H1.out.fb _ o).2; have := H1.out.su; have := HUV.out.1; omega)
                have HDL : Hid (D.length ≤ 128) := by have h := do_len s ad rgn wl rdn; rw [hd] at h; exact Nat.le_trans h hrd
                have HRD : Hid (∀ {wr : World} {B : Nat} {own : Nat → Prop} {v : Value} {V1 V2 : Nat} (h : DxV w0 B wr S U y x own s' s v D V1 V2 st) (hb : BR wr wa wl), Calls Try.prog 18 #[.pointer (some ⟨x.b, 0, none⟩), txv ad rgn wa wl.length wc rdn] wr fun e w' => ∃ a' c', e = .returned (ansV st (.slice a' D.length c')) ∧ AV w' V2 ∧ ∃ own', Hid (Dx2 w0 B ((w'.setCell ⟨V2, 0, none⟩ (.int .i64 st)).setCell ⟨V2, 1, none⟩ (.slice a' D.length c')) S U y x own' s' v (.slice a' D.length c') D V1 V2 st)) := fun h hb => be_rdo hd h wa wc hok hb HWK.out
                clear HMT hok hd
                go_upto_region 26 with (first | (go_at_call_of 11 (Value.int IntKind.i64 8); refine (HV8.out _).mono ?_; rintro e wx ⟨rfl, hwx⟩; have hwy := hwx.symm; clear hwx; subst hwy) | (go_at_call 16; refine HD.mono ?_; rintro e w2 ⟨a1, c1, rfl, q1, q2, q3⟩))
                have DV := q3.out.dv st
                have x2 : Ext w2 ((w2.alloc (.cells #[.int .i64 st, .slice a1 D.length c1] 57)).alloc ansC) := ((Ext.refl w2).alloc _).alloc _
                have V2 := q1.ext x2
                have HBR2 : Hid (BR ((w2.alloc (.cells #[.int .i64 st, .slice a1 D.length c1] 57)).alloc ansC) wa wl) := q2.ext x2
                have HDV : Hid (DxV w0 w1.heap.size ((w2.alloc (.cells #[.int .i64 st, .slice a1 D.length c1] 57)).alloc ansC) S U y x own s' s (.slice a1 D.length c1) D w2.heap.size (w2.heap.size + 1) st) := DV
                clear v0 v1 v2 v3 v4 v5 x2 q1 q2 q3 DV HD
                obtain ⟨v0, v1, v2, v3, v4, v5⟩ := V2
                dsimp only at v0 v1 v2 v3 v4 v5
                have HV2 : Hid (A6 ((w2.alloc (.cells #[.int .i64 st, .slice a1 D.length c1] 57)).alloc ansC) VB 0 ⟨dd, ad, rgn, wl, rdn, nn⟩ wa wc) := ⟨v0, v1, v2, v3, v4, v5⟩
                go_upto_region 28 with fail
                generalize (w2.alloc (.cells #[.int .i64 st, .slice a1 D.length c1] 57)).alloc ansC = W2 at *
                generalize w2.heap.size + 1 = B3 at *
                generalize w2.heap.size = B2 at *
                go_upto_region 30 with (go_at_call 17; refine (HMT2.out _).mono ?_; rintro e w3 ⟨rfl, y3⟩)
                have HDV3 := HDV.out.ext y3
                have HR3 := HRD.out HDV3 (HBR2.out.ext y3)
                have V3 := HV2.out.ext y3
                clear v0 v1 v2 v3 v4 v5
                obtain ⟨v0, v1, v2, v3, v4, v5⟩ := V3
                dsimp only at v0 v1 v2 v3 v4 v5
                clear y3 HDV3
                go_upto_region 31 with (go_at_call 18; refine HR3.mono ?_; rintro e w4 ⟨a2, c2, rfl, ⟨⟨m0, b0⟩, ⟨m1, b1⟩, f0, f1⟩, own2, h4⟩)
                clear v0 v1 v2 v3 v4 v5 b0 b1 f0 f1 HR3
                generalize (w4.setCell ⟨B3, 0, none⟩ (.int .i64 st)).setCell ⟨B3, 1, none⟩ (.slice a2 D.length c2) = W4 at *
                obtain ⟨c0, c1'⟩ := h4.out.va
                obtain ⟨d0, d1⟩ := h4.out.vb
                have HEQ := eq_answer st a1 c1 a2 c2 W4 (rdb_row h4.out.row) h4.out.rd (by have := HDL.out; omega)
                go_upto_region 33 with (first | (go_at_call 8; refine (HNU.out _ _).mono ?_; rintro e wx ⟨rfl, hwx⟩; have hwy := hwx.symm; clear hwx; subst hwy) | (go_at_call 19; refine HEQ.mono ?_; rintro e w5 ⟨rfl, y5⟩; have k5 := y5.keepc c1'; have H5 : Hid (Dx2 w0 w1.heap.size w5 S U y x own2 s' (.slice a1 D.length c1) (.slice a2 D.length c2) D B2 B3 st) := h4.out.ext y5))
                go_upto_region 46 with (go_at_call 20; refine (be_spoil H5.out (by have := HDL.out; omega)).mono ?_; rintro e w6 ⟨⟨u6, rfl⟩, h6'⟩)
                go_wp2_with (first | (go_at_call 21; refine (be_count h6'.out).1.mono ?_; rintro e wx ⟨rfl, hwx⟩; have hwy := hwx.symm; clear hwx; subst hwy) | (go_at_call 22; refine (be_count h6'.out).2.mono ?_; rintro e wx ⟨rfl, hwx⟩; have hwy := hwx.symm; clear hwx; subst hwy))
                go_roundw
                case measure => exact lt_meas40 h40
                case rel => exact ⟨k + 1, own2, s', by omega, by omega, by go_num, h6'⟩
      · have h40i : ¬ (k : Int) < 40 := by omega
        have h40b : decide ((k : Int) < 40) = false := by simpa using h40i
        go_upto_region 48 with fail
        have HWK := wakes_any wr
        have e0 := hI.out.e
        go_wp2_with (go_at_call 9; refine HWK.mono ?_; rintro e w9 ⟨rfl, x9⟩)
        show Po (.returned (.bool true)) _
        exact HP.out _ (e0.trans x9)
    · have hlti : ¬ (k : Int) < (L.length : Int) := by omega
      have hltb : decide ((k : Int) < (L.length : Int)) = false := by simpa using hlti
      go_upto_region 48 with fail
      have HWK := wakes_any wr
      have e0 := hI.out.e
      go_wp2_with (go_at_call 9; refine HWK.mono ?_; rintro e w9 ⟨rfl, x9⟩)
      show Po (.returned (.bool true)) _
      exact HP.out _ (e0.trans x9)
end Go.Proofs.Ytfgljkeohoffiaa
