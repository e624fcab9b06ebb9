/- gimbalref9: Take. -/
import Derived.Test.YtdfhhfpfnkjbnaaFb
import Derived.Deep.RegionHeldLaw
namespace Go.Proofs.Ytdfhhfpfnkjbnaa
open Go.RowKit Go.Conc
section
variable {w : World} {d : Dr} {ast : Int} {data : List Int} {da : Option Addr} {c : Nat}
/-- what the reference's Take is handed, and what it tells -/
def TakeR (w : World) (d : Dr) (ast : Int) (data : List Int) (da : Option Addr) (c : Nat) : Prop :=
  Calls Try.prog 17 #[drv d, .agg #[.int .i64 ast, .slice da data.length c]] w fun e w' => ∃ v, e = .returned (.tuple #[drv (takeD d ast data), v, .bool ((takeD d ast data).st == 8)]) ∧ RawsAt (w.heap.size + 3) (toldD d ast data) w' v ∧ Ext w w'
set_option maxRecDepth 20000 in
set_option maxHeartbeats 8000000 in
theorem rtake_miss (hok : okD d = true) (hin : inn d.st 1 7 = true) (hrd : RdY w 0 da data) (hby : ∀ j, 0 ≤ data.getD j 0 ∧ data.getD j 0 ≤ 255) (hg : goodD d ast data = false) : TakeR w d ast data da c := by
  have HN : Hid (∀ w, Calls Try.prog 16 #[drv d] w fun e w' => ∃ a c, e = .returned (.tuple #[txw d.addr (txReg d.st) a (txWr d).length c (txRd d), .bool true]) ∧ RdY w' w.heap.size a (txWr d) ∧ Ext w w') := fun w => rnext_some d hin w
  have HG : Hid (∀ ta tr tw tl tc W, Ext w W → Calls Try.prog 40 #[drv d, txw ta tr tw tl tc (txRd d), .agg #[.int .i64 ast, .slice da data.length c]] W fun e w' => e = .returned (.bool (goodD d ast data)) ∧ Ext W w') := fun ta tr tw tl tc W x => rgood_any d ta tr tw tl tc ast data da c W (hrd.ext x) hby
  have HB : Hid (∀ w, Calls Try.prog 41 #[drv d] w fun e w' => e = .returned (.tuple #[drv (missD d), .slice none 0 0, .bool ((missD d).st == 8)]) ∧ Ext w w') := fun w => rbad_any d hok hin w
  have et : takeD d ast data = missD d := by unfold takeD; rw [hg]; rfl
  have er : toldD d ast data = [] := told_none hg
  unfold TakeR
  rw [et, er]
  have hgd : goodD d ast data = false := hg
  clear et er hg hrd hby hok hin
  generalize missD d = md at *
  obtain ⟨ma, mi, mw, mp, ms, mf, mt, ml, mb⟩ := md
  generalize hmt : (ms == 8) = m8 at *
  clear hmt
  obtain ⟨addr, id, want, per, st, fails, tried, left, bad⟩ := d
  simp only at HN HB
  obtain ⟨tr, etr⟩ : ∃ tr, tr = txReg st := ⟨_, rfl⟩
  obtain ⟨tn, etn⟩ : ∃ tn, tn = (txWr ⟨addr, id, want, per, st, fails, tried, left, bad⟩).length := ⟨_, rfl⟩
  obtain ⟨tq, etq⟩ : ∃ tq, tq = txRd ⟨addr, id, want, per, st, fails, tried, left, bad⟩ := ⟨_, rfl⟩
  have HN : Hid (∀ w, Calls Try.prog 16 #[drv ⟨addr, id, want, per, st, fails, tried, left, bad⟩] w fun e w' => ∃ a c, e = .returned (.tuple #[.agg #[.int .i64 addr, .int .i64 tr, .slice a tn c, .int .i64 tq], .bool true]) ∧ RdY w' w.heap.size a (txWr ⟨addr, id, want, per, st, fails, tried, left, bad⟩) ∧ Ext w w') := by
    rw [etr, etn, etq]; exact HN
  have HG : Hid (∀ tw tc (W : World), True → Ext w W → Calls Try.prog 40 #[drv ⟨addr, id, want, per, st, fails, tried, left, bad⟩, .agg #[.int .i64 addr, .int .i64 tr, .slice tw tn tc, .int .i64 tq], .agg #[.int .i64 ast, .slice da data.length c]] W fun e w' => e = .returned (.bool false) ∧ Ext W w') := by
    intro tw tc W _ x
    have h := HG.out addr tr tw tn tc W x
    rw [hgd, ← etq] at h
    exact h
  clear etr etn etq
  have ta0 : True := trivial
  have Fd : Hid (HV (((w.alloc (.cells #[.int .i64 addr, .int .i64 id, .bool want, .int .i64 per, .int .i64 st, .int .i64 fails, .bool tried, .int .i64 left, .int .i64 bad] 24)).alloc (.cells #[.int .i64 ast, .slice da data.length c] 27)).alloc (.cells #[.int .i64 0, .int .i64 0, .bool false, .int .i64 0, .int .i64 0, .int .i64 0, .bool false, .int .i64 0, .int .i64 0] 24)) w.heap.size [.int .i64 addr, .int .i64 id, .bool want, .int .i64 per, .int .i64 st, .int .i64 fails, .bool tried, .int .i64 left, .int .i64 bad]) := ((hv_at rfl).alloc _).alloc _
  have Fa : Hid (HV (((w.alloc (.cells #[.int .i64 addr, .int .i64 id, .bool want, .int .i64 per, .int .i64 st, .int .i64 fails, .bool tried, .int .i64 left, .int .i64 bad] 24)).alloc (.cells #[.int .i64 ast, .slice da data.length c] 27)).alloc (.cells #[.int .i64 0, .int .i64 0, .bool false, .int .i64 0, .int .i64 0, .int .i64 0, .bool false, .int .i64 0, .int .i64 0] 24)) (w.heap.size + 1) [.int .i64 ast, .slice da data.length c]) := (hv_at (by simp)).alloc _
  have Fr : Hid (HV (((w.alloc (.cells #[.int .i64 addr, .int .i64 id, .bool want, .int .i64 per, .int .i64 st, .int .i64 fails, .bool tried, .int .i64 left, .int .i64 bad] 24)).alloc (.cells #[.int .i64 ast, .slice da data.length c] 27)).alloc (.cells #[.int .i64 0, .int .i64 0, .bool false, .int .i64 0, .int .i64 0, .int .i64 0, .bool false, .int .i64 0, .int .i64 0] 24)) (w.heap.size + 1 + 1) [.int .i64 0, .int .i64 0, .bool false, .int .i64 0, .int .i64 0, .int .i64 0, .bool false, .int .i64 0, .int .i64 0]) := hv_at (by simp)
  have FX : Hid (Ext w (((w.alloc (.cells #[.int .i64 addr, .int .i64 id, .bool want, .int .i64 per, .int .i64 st, .int .i64 fails, .bool tried, .int .i64 left, .int .i64 bad] 24)).alloc (.cells #[.int .i64 ast, .slice da data.length c] 27)).alloc (.cells #[.int .i64 0, .int .i64 0, .bool false, .int .i64 0, .int .i64 0, .int .i64 0, .bool false, .int .i64 0, .int .i64 0] 24))) := (((Ext.refl w).alloc _).alloc _).alloc _
  have Ld : Hid (w.heap.size ≤ w.heap.size) := Nat.le_refl _
  have Lr : Hid (w.heap.size ≤ w.heap.size + 1 + 1) := by show w.heap.size ≤ w.heap.size + 1 + 1; omega
  go_enter Try.func17, Try.ntmps17
  go_upto_region 1 with fail
  generalize (((w.alloc (.cells #[.int .i64 addr, .int .i64 id, .bool want, .int .i64 per, .int .i64 st, .int .i64 fails, .bool tried, .int .i64 left, .int .i64 bad] 24)).alloc (.cells #[.int .i64 ast, .slice da data.length c] 27)).alloc (.cells #[.int .i64 0, .int .i64 0, .bool false, .int .i64 0, .int .i64 0, .int .i64 0, .bool false, .int .i64 0, .int .i64 0] 24)) = wa at *
  have qd0 : wa.cell? ⟨w.heap.size, 0, none⟩ = some (.int .i64 addr) := Fd.out.c 0 rfl
  have qd1 : wa.cell? ⟨w.heap.size, 1, none⟩ = some (.int .i64 id) := Fd.out.c 1 rfl
  have qd2 : wa.cell? ⟨w.heap.size, 2, none⟩ = some (.bool want) := Fd.out.c 2 rfl
  have qd3 : wa.cell? ⟨w.heap.size, 3, none⟩ = some (.int .i64 per) := Fd.out.c 3 rfl
  have qd4 : wa.cell? ⟨w.heap.size, 4, none⟩ = some (.int .i64 st) := Fd.out.c 4 rfl
  have qd5 : wa.cell? ⟨w.heap.size, 5, none⟩ = some (.int .i64 fails) := Fd.out.c 5 rfl
  have qd6 : wa.cell? ⟨w.heap.size, 6, none⟩ = some (.bool tried) := Fd.out.c 6 rfl
  have qd7 : wa.cell? ⟨w.heap.size, 7, none⟩ = some (.int .i64 left) := Fd.out.c 7 rfl
  have qd8 : wa.cell? ⟨w.heap.size, 8, none⟩ = some (.int .i64 bad) := Fd.out.c 8 rfl
  go_upto_region 2 with (first | (go_at_call 16; refine (HN.out _).mono ?_; rintro e u1 ⟨t1, tc, rfl, _, x1⟩))
  have Fd : Hid (HV u1 w.heap.size [.int .i64 addr, .int .i64 id, .bool want, .int .i64 per, .int .i64 st, .int .i64 fails, .bool tried, .int .i64 left, .int .i64 bad]) := Fd.out.ext x1
  have Fa : Hid (HV u1 (w.heap.size + 1) [.int .i64 ast, .slice da data.length c]) := Fa.out.ext x1
  have Fr : Hid (HV u1 (w.heap.size + 1 + 1) [.int .i64 0, .int .i64 0, .bool false, .int .i64 0, .int .i64 0, .int .i64 0, .bool false, .int .i64 0, .int .i64 0]) := Fr.out.ext x1
  have FX : Hid (Ext w u1) := FX.out.trans x1
  clear qd0 qd1 qd2 qd3 qd4 qd5 qd6 qd7 qd8 x1 HN
  have ltdt : w.heap.size < u1.heap.size := Fd.out.1
  have ltat : (w.heap.size + 1) < u1.heap.size := Fa.out.1
  have ltrt : (w.heap.size + 1 + 1) < u1.heap.size := Fr.out.1
  have Lt : Hid (w.heap.size ≤ u1.heap.size) := FX.out.size
  have Fd : Hid (HV (u1.alloc (.cells #[.int .i64 addr, .int .i64 tr, .slice t1 tn tc, .int .i64 tq] 31)) w.heap.size [.int .i64 addr, .int .i64 id, .bool want, .int .i64 per, .int .i64 st, .int .i64 fails, .bool tried, .int .i64 left, .int .i64 bad]) := Fd.out.alloc _
  have Fa : Hid (HV (u1.alloc (.cells #[.int .i64 addr, .int .i64 tr, .slice t1 tn tc, .int .i64 tq] 31)) (w.heap.size + 1) [.int .i64 ast, .slice da data.length c]) := Fa.out.alloc _
  have Fr : Hid (HV (u1.alloc (.cells #[.int .i64 addr, .int .i64 tr, .slice t1 tn tc, .int .i64 tq] 31)) (w.heap.size + 1 + 1) [.int .i64 0, .int .i64 0, .bool false, .int .i64 0, .int .i64 0, .int .i64 0, .bool false, .int .i64 0, .int .i64 0]) := Fr.out.alloc _
  have Ft : Hid (HV (u1.alloc (.cells #[.int .i64 addr, .int .i64 tr, .slice t1 tn tc, .int .i64 tq] 31)) u1.heap.size [.int .i64 addr, .int .i64 tr, .slice t1 tn tc, .int .i64 tq]) := hv_at rfl
  have FX : Hid (Ext w (u1.alloc (.cells #[.int .i64 addr, .int .i64 tr, .slice t1 tn tc, .int .i64 tq] 31))) := FX.out.alloc _
  generalize (u1.alloc (.cells #[.int .i64 addr, .int .i64 tr, .slice t1 tn tc, .int .i64 tq] 31)) = wx1 at *
  generalize u1.heap.size = nt at *
  have qd0 : wx1.cell? ⟨w.heap.size, 0, none⟩ = some (.int .i64 addr) := Fd.out.c 0 rfl
  have qd1 : wx1.cell? ⟨w.heap.size, 1, none⟩ = some (.int .i64 id) := Fd.out.c 1 rfl
  have qd2 : wx1.cell? ⟨w.heap.size, 2, none⟩ = some (.bool want) := Fd.out.c 2 rfl
  have qd3 : wx1.cell? ⟨w.heap.size, 3, none⟩ = some (.int .i64 per) := Fd.out.c 3 rfl
  have qd4 : wx1.cell? ⟨w.heap.size, 4, none⟩ = some (.int .i64 st) := Fd.out.c 4 rfl
  have qd5 : wx1.cell? ⟨w.heap.size, 5, none⟩ = some (.int .i64 fails) := Fd.out.c 5 rfl
  have qd6 : wx1.cell? ⟨w.heap.size, 6, none⟩ = some (.bool tried) := Fd.out.c 6 rfl
  have qd7 : wx1.cell? ⟨w.heap.size, 7, none⟩ = some (.int .i64 left) := Fd.out.c 7 rfl
  have qd8 : wx1.cell? ⟨w.heap.size, 8, none⟩ = some (.int .i64 bad) := Fd.out.c 8 rfl
  have qa0 : wx1.cell? ⟨(w.heap.size + 1), 0, none⟩ = some (.int .i64 ast) := Fa.out.c 0 rfl
  have qa1 : wx1.cell? ⟨(w.heap.size + 1), 1, none⟩ = some (.slice da data.length c) := Fa.out.c 1 rfl
  have qt0 : wx1.cell? ⟨nt, 0, none⟩ = some (.int .i64 addr) := Ft.out.c 0 rfl
  have qt1 : wx1.cell? ⟨nt, 1, none⟩ = some (.int .i64 tr) := Ft.out.c 1 rfl
  have qt2 : wx1.cell? ⟨nt, 2, none⟩ = some (.slice t1 tn tc) := Ft.out.c 2 rfl
  have qt3 : wx1.cell? ⟨nt, 3, none⟩ = some (.int .i64 tq) := Ft.out.c 3 rfl
  go_upto_region 3 with (first | (go_at_call 40; refine (HG.out _ _ _ trivial FX.out).mono ?_; rintro e u2 ⟨rfl, x2⟩))
  have Fd : Hid (HV u2 w.heap.size [.int .i64 addr, .int .i64 id, .bool want, .int .i64 per, .int .i64 st, .int .i64 fails, .bool tried, .int .i64 left, .int .i64 bad]) := Fd.out.ext x2
  have Fa : Hid (HV u2 (w.heap.size + 1) [.int .i64 ast, .slice da data.length c]) := Fa.out.ext x2
  have Fr : Hid (HV u2 (w.heap.size + 1 + 1) [.int .i64 0, .int .i64 0, .bool false, .int .i64 0, .int .i64 0, .int .i64 0, .bool false, .int .i64 0, .int .i64 0]) := Fr.out.ext x2
  have Ft : Hid (HV u2 nt [.int .i64 addr, .int .i64 tr, .slice t1 tn tc, .int .i64 tq]) := Ft.out.ext x2
  have FX : Hid (Ext w u2) := FX.out.trans x2
  clear qd0 qd1 qd2 qd3 qd4 qd5 qd6 qd7 qd8 qa0 qa1 qt0 qt1 qt2 qt3 x2 HG
  have qd0 : u2.cell? ⟨w.heap.size, 0, none⟩ = some (.int .i64 addr) := Fd.out.c 0 rfl
  have qd1 : u2.cell? ⟨w.heap.size, 1, none⟩ = some (.int .i64 id) := Fd.out.c 1 rfl
  have qd2 : u2.cell? ⟨w.heap.size, 2, none⟩ = some (.bool want) := Fd.out.c 2 rfl
  have qd3 : u2.cell? ⟨w.heap.size, 3, none⟩ = some (.int .i64 per) := Fd.out.c 3 rfl
  have qd4 : u2.cell? ⟨w.heap.size, 4, none⟩ = some (.int .i64 st) := Fd.out.c 4 rfl
  have qd5 : u2.cell? ⟨w.heap.size, 5, none⟩ = some (.int .i64 fails) := Fd.out.c 5 rfl
  have qd6 : u2.cell? ⟨w.heap.size, 6, none⟩ = some (.bool tried) := Fd.out.c 6 rfl
  have qd7 : u2.cell? ⟨w.heap.size, 7, none⟩ = some (.int .i64 left) := Fd.out.c 7 rfl
  have qd8 : u2.cell? ⟨w.heap.size, 8, none⟩ = some (.int .i64 bad) := Fd.out.c 8 rfl
  have qr0 : u2.cell? ⟨(w.heap.size + 1 + 1), 0, none⟩ = some (.int .i64 0) := Fr.out.c 0 rfl
  have qr1 : u2.cell? ⟨(w.heap.size + 1 + 1), 1, none⟩ = some (.int .i64 0) := Fr.out.c 1 rfl
  have qr2 : u2.cell? ⟨(w.heap.size + 1 + 1), 2, none⟩ = some (.bool false) := Fr.out.c 2 rfl
  have qr3 : u2.cell? ⟨(w.heap.size + 1 + 1), 3, none⟩ = some (.int .i64 0) := Fr.out.c 3 rfl
  have qr4 : u2.cell? ⟨(w.heap.size + 1 + 1), 4, none⟩ = some (.int .i64 0) := Fr.out.c 4 rfl
  have qr5 : u2.cell? ⟨(w.heap.size + 1 + 1), 5, none⟩ = some (.int .i64 0) := Fr.out.c 5 rfl
  have qr6 : u2.cell? ⟨(w.heap.size + 1 + 1), 6, none⟩ = some (.bool false) := Fr.out.c 6 rfl
  have qr7 : u2.cell? ⟨(w.heap.size + 1 + 1), 7, none⟩ = some (.int .i64 0) := Fr.out.c 7 rfl
  have qr8 : u2.cell? ⟨(w.heap.size + 1 + 1), 8, none⟩ = some (.int .i64 0) := Fr.out.c 8 rfl
  have zr0 : u2.frozen? ⟨(w.heap.size + 1 + 1), 0, none⟩ = false := Fr.out.f 0 rfl
  have zr1 : u2.frozen? ⟨(w.heap.size + 1 + 1), 1, none⟩ = false := Fr.out.f 1 rfl
  have zr2 : u2.frozen? ⟨(w.heap.size + 1 + 1), 2, none⟩ = false := Fr.out.f 2 rfl
  have zr3 : u2.frozen? ⟨(w.heap.size + 1 + 1), 3, none⟩ = false := Fr.out.f 3 rfl
  have zr4 : u2.frozen? ⟨(w.heap.size + 1 + 1), 4, none⟩ = false := Fr.out.f 4 rfl
  have zr5 : u2.frozen? ⟨(w.heap.size + 1 + 1), 5, none⟩ = false := Fr.out.f 5 rfl
  have zr6 : u2.frozen? ⟨(w.heap.size + 1 + 1), 6, none⟩ = false := Fr.out.f 6 rfl
  have zr7 : u2.frozen? ⟨(w.heap.size + 1 + 1), 7, none⟩ = false := Fr.out.f 7 rfl
  have zr8 : u2.frozen? ⟨(w.heap.size + 1 + 1), 8, none⟩ = false := Fr.out.f 8 rfl
  go_wp2_with (go_at_call 41; refine (HB.out _).mono ?_; rintro e u3 ⟨rfl, x3⟩; have kr0 : u3.cell? ⟨w.heap.size + 1 + 1, 0, none⟩ = some (.int .i64 0) := (Fr.out.ext x3).c 0 rfl; have kr1 : u3.cell? ⟨w.heap.size + 1 + 1, 1, none⟩ = some (.int .i64 0) := (Fr.out.ext x3).c 1 rfl; have kr2 : u3.cell? ⟨w.heap.size + 1 + 1, 2, none⟩ = some (.bool false) := (Fr.out.ext x3).c 2 rfl; have kr3 : u3.cell? ⟨w.heap.size + 1 + 1, 3, none⟩ = some (.int .i64 0) := (Fr.out.ext x3).c 3 rfl; have kr4 : u3.cell? ⟨w.heap.size + 1 + 1, 4, none⟩ = some (.int .i64 0) := (Fr.out.ext x3).c 4 rfl; have kr5 : u3.cell? ⟨w.heap.size + 1 + 1, 5, none⟩ = some (.int .i64 0) := (Fr.out.ext x3).c 5 rfl; have kr6 : u3.cell? ⟨w.heap.size + 1 + 1, 6, none⟩ = some (.bool false) := (Fr.out.ext x3).c 6 rfl; have kr7 : u3.cell? ⟨w.heap.size + 1 + 1, 7, none⟩ = some (.int .i64 0) := (Fr.out.ext x3).c 7 rfl; have kr8 : u3.cell? ⟨w.heap.size + 1 + 1, 8, none⟩ = some (.int .i64 0) := (Fr.out.ext x3).c 8 rfl; have yr0 : u3.frozen? ⟨w.heap.size + 1 + 1, 0, none⟩ = false := (Fr.out.ext x3).f 0 rfl; have yr1 : u3.frozen? ⟨w.heap.size + 1 + 1, 1, none⟩ = false := (Fr.out.ext x3).f 1 rfl; have yr2 : u3.frozen? ⟨w.heap.size + 1 + 1, 2, none⟩ = false := (Fr.out.ext x3).f 2 rfl; have yr3 : u3.frozen? ⟨w.heap.size + 1 + 1, 3, none⟩ = false := (Fr.out.ext x3).f 3 rfl; have yr4 : u3.frozen? ⟨w.heap.size + 1 + 1, 4, none⟩ = false := (Fr.out.ext x3).f 4 rfl; have yr5 : u3.frozen? ⟨w.heap.size + 1 + 1, 5, none⟩ = false := (Fr.out.ext x3).f 5 rfl; have yr6 : u3.frozen? ⟨w.heap.size + 1 + 1, 6, none⟩ = false := (Fr.out.ext x3).f 6 rfl; have yr7 : u3.frozen? ⟨w.heap.size + 1 + 1, 7, none⟩ = false := (Fr.out.ext x3).f 7 rfl; have yr8 : u3.frozen? ⟨w.heap.size + 1 + 1, 8, none⟩ = false := (Fr.out.ext x3).f 8 rfl)
  have fx : Ext w u3 := FX.out.trans x3
  refine bodyPost_ret (v := .tuple #[.agg #[.int .i64 ma, .int .i64 mi, .bool mw, .int .i64 mp, .int .i64 ms, .int .i64 mf, .bool mt, .int .i64 ml, .int .i64 mb], .slice none 0 0, .bool m8]) (by simp [results, Try.results17, go_sem, kr0, kr1, kr2, kr3, kr4, kr5, kr6, kr7, kr8]) rfl ⟨_, rfl, rawsAt_nil _ _, ?_⟩
  repeat (first | with_reducible assumption | with_reducible exact Ext.refl _ | with_reducible refine Ext.drew ?_ | with_reducible refine Ext.drewN ?_ _ | with_reducible refine Ext.alloc ?_ _ | with_reducible refine Ext.set ?_ (by first | exact Nat.le_refl _ | (dsimp only; omega) | (simp; done)) _)
end
end Go.Proofs.Ytdfhhfpfnkjbnaa
