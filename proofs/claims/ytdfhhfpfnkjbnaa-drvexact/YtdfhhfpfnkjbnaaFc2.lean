/- gimbalref9: Take. -/
import Derived.Test.YtdfhhfpfnkjbnaaFc
import Derived.Deep.RegionHeldLaw
namespace Go.Proofs.Ytdfhhfpfnkjbnaa
open Go.RowKit Go.Conc
section
variable {w : World} {d : Dr} {ast : Int} {data : List Int} {da : Option Addr} {c : Nat}
set_option maxRecDepth 20000 in
set_option maxHeartbeats 8000000 in
theorem rtake3 (addr id : Int) (want : Bool) (per fails : Int) (tried : Bool) (bad : Int) (hrd : RdY w 0 da data) (hby : ∀ j, 0 ≤ data.getD j 0 ∧ data.getD j 0 ≤ 255) (hgd : goodD ⟨addr, id, want, per, 3, fails, tried, 0, bad⟩ ast data = true) : TakeR w ⟨addr, id, want, per, 3, fails, tried, 0, bad⟩ ast data da c := by
  have HN : Hid (∀ w, Calls Try.prog 16 #[drv ⟨addr, id, want, per, 3, fails, tried, 0, bad⟩] w fun e w' => ∃ a c, e = .returned (.tuple #[txw addr (txReg 3) a (txWr ⟨addr, id, want, per, 3, fails, tried, 0, bad⟩).length c (txRd ⟨addr, id, want, per, 3, fails, tried, 0, bad⟩), .bool true]) ∧ RdY w' w.heap.size a (txWr ⟨addr, id, want, per, 3, fails, tried, 0, bad⟩) ∧ Ext w w') := fun w => rnext_some ⟨addr, id, want, per, 3, fails, tried, 0, bad⟩ rfl w
  have HG : Hid (∀ ta tr tw tl tc W, Ext w W → Calls Try.prog 40 #[drv ⟨addr, id, want, per, 3, fails, tried, 0, bad⟩, txw ta tr tw tl tc (txRd ⟨addr, id, want, per, 3, fails, tried, 0, bad⟩), .agg #[.int .i64 ast, .slice da data.length c]] W fun e w' => e = .returned (.bool (goodD ⟨addr, id, want, per, 3, fails, tried, 0, bad⟩ ast data)) ∧ Ext W w') := fun ta tr tw tl tc W x => rgood_any ⟨addr, id, want, per, 3, fails, tried, 0, bad⟩ ta tr tw tl tc ast data da c W (hrd.ext x) hby
  have et : takeD ⟨addr, id, want, per, 3, fails, tried, 0, bad⟩ ast data = ⟨addr, id, want, per, 4, 0, false, 0, bad⟩ := by unfold takeD; rw [if_pos hgd]; unfold gotD; dsimp only; rw [if_neg (by decide), if_neg (by decide), if_pos rfl]; rfl
  have er : toldD ⟨addr, id, want, per, 3, fails, tried, 0, bad⟩ ast data = [] := told_plain (show (3 : Int) ≠ 5 by decide)
  unfold TakeR
  rw [et, er]
  clear et er hrd hby
  obtain ⟨tr, etr⟩ : ∃ tr, tr = txReg 3 := ⟨_, rfl⟩
  obtain ⟨tn, etn⟩ : ∃ tn, tn = (txWr ⟨addr, id, want, per, 3, fails, tried, 0, bad⟩).length := ⟨_, rfl⟩
  obtain ⟨tq, etq⟩ : ∃ tq, tq = txRd ⟨addr, id, want, per, 3, fails, tried, 0, bad⟩ := ⟨_, rfl⟩
  have HN : Hid (∀ w, Calls Try.prog 16 #[drv ⟨addr, id, want, per, 3, fails, tried, 0, bad⟩] w fun e w' => ∃ a c, e = .returned (.tuple #[.agg #[.int .i64 addr, .int .i64 tr, .slice a tn c, .int .i64 tq], .bool true]) ∧ RdY w' w.heap.size a (txWr ⟨addr, id, want, per, 3, fails, tried, 0, bad⟩) ∧ Ext w w') := by
    rw [etr, etn, etq]; exact HN
  have HG : Hid (∀ tw tc (W : World), True → Ext w W → Calls Try.prog 40 #[drv ⟨addr, id, want, per, 3, fails, tried, 0, bad⟩, .agg #[.int .i64 addr, .int .i64 tr, .slice tw tn tc, .int .i64 tq], .agg #[.int .i64 ast, .slice da data.length c]] W fun e w' => e = .returned (.bool true) ∧ Ext W w') := by
    intro tw tc W _ x
    have h := HG.out addr tr tw tn tc W x
    rw [hgd, ← etq] at h
    exact h
  clear etr etn etq
  have Fd : Hid (HV (((w.alloc (.cells #[.int .i64 addr, .int .i64 id, .bool want, .int .i64 per, .int .i64 3, .int .i64 fails, .bool tried, .int .i64 0, .int .i64 bad] 24)).alloc (.cells #[.int .i64 ast, .slice da data.length c] 27)).alloc (.cells #[.int .i64 0, .int .i64 0, .bool false, .int .i64 0, .int .i64 0, .int .i64 0, .bool false, .int .i64 0, .int .i64 0] 24)) w.heap.size [.int .i64 addr, .int .i64 id, .bool want, .int .i64 per, .int .i64 3, .int .i64 fails, .bool tried, .int .i64 0, .int .i64 bad]) := ((hv_at rfl).alloc _).alloc _
  have Fa : Hid (HV (((w.alloc (.cells #[.int .i64 addr, .int .i64 id, .bool want, .int .i64 per, .int .i64 3, .int .i64 fails, .bool tried, .int .i64 0, .int .i64 bad] 24)).alloc (.cells #[.int .i64 ast, .slice da data.length c] 27)).alloc (.cells #[.int .i64 0, .int .i64 0, .bool false, .int .i64 0, .int .i64 0, .int .i64 0, .bool false, .int .i64 0, .int .i64 0] 24)) (w.heap.size + 1) [.int .i64 ast, .slice da data.length c]) := (hv_at (by simp)).alloc _
  have Fr : Hid (HV (((w.alloc (.cells #[.int .i64 addr, .int .i64 id, .bool want, .int .i64 per, .int .i64 3, .int .i64 fails, .bool tried, .int .i64 0, .int .i64 bad] 24)).alloc (.cells #[.int .i64 ast, .slice da data.length c] 27)).alloc (.cells #[.int .i64 0, .int .i64 0, .bool false, .int .i64 0, .int .i64 0, .int .i64 0, .bool false, .int .i64 0, .int .i64 0] 24)) (w.heap.size + 1 + 1) [.int .i64 0, .int .i64 0, .bool false, .int .i64 0, .int .i64 0, .int .i64 0, .bool false, .int .i64 0, .int .i64 0]) := hv_at (by simp)
  have FX : Hid (Ext w (((w.alloc (.cells #[.int .i64 addr, .int .i64 id, .bool want, .int .i64 per, .int .i64 3, .int .i64 fails, .bool tried, .int .i64 0, .int .i64 bad] 24)).alloc (.cells #[.int .i64 ast, .slice da data.length c] 27)).alloc (.cells #[.int .i64 0, .int .i64 0, .bool false, .int .i64 0, .int .i64 0, .int .i64 0, .bool false, .int .i64 0, .int .i64 0] 24))) := (((Ext.refl w).alloc _).alloc _).alloc _
  have Ld : Hid (w.heap.size ≤ w.heap.size) := Nat.le_refl _
  have Lr : Hid (w.heap.size ≤ w.heap.size + 1 + 1) := by show w.heap.size ≤ w.heap.size + 1 + 1; omega
  go_enter Try.func17, Try.ntmps17
  go_upto_region 1 with fail
  generalize (((w.alloc (.cells #[.int .i64 addr, .int .i64 id, .bool want, .int .i64 per, .int .i64 3, .int .i64 fails, .bool tried, .int .i64 0, .int .i64 bad] 24)).alloc (.cells #[.int .i64 ast, .slice da data.length c] 27)).alloc (.cells #[.int .i64 0, .int .i64 0, .bool false, .int .i64 0, .int .i64 0, .int .i64 0, .bool false, .int .i64 0, .int .i64 0] 24)) = wa at *
  have qd0 : wa.cell? ⟨w.heap.size, 0, none⟩ = some (.int .i64 addr) := Fd.out.c 0 rfl
  have qd1 : wa.cell? ⟨w.heap.size, 1, none⟩ = some (.int .i64 id) := Fd.out.c 1 rfl
  have qd2 : wa.cell? ⟨w.heap.size, 2, none⟩ = some (.bool want) := Fd.out.c 2 rfl
  have qd3 : wa.cell? ⟨w.heap.size, 3, none⟩ = some (.int .i64 per) := Fd.out.c 3 rfl
  have qd4 : wa.cell? ⟨w.heap.size, 4, none⟩ = some (.int .i64 3) := Fd.out.c 4 rfl
  have qd5 : wa.cell? ⟨w.heap.size, 5, none⟩ = some (.int .i64 fails) := Fd.out.c 5 rfl
  have qd6 : wa.cell? ⟨w.heap.size, 6, none⟩ = some (.bool tried) := Fd.out.c 6 rfl
  have qd7 : wa.cell? ⟨w.heap.size, 7, none⟩ = some (.int .i64 0) := Fd.out.c 7 rfl
  have qd8 : wa.cell? ⟨w.heap.size, 8, none⟩ = some (.int .i64 bad) := Fd.out.c 8 rfl
  go_upto_region 2 with (first | (go_at_call 16; refine (HN.out _).mono ?_; rintro e u1 ⟨t1, tc, rfl, _, x1⟩))
  have Fd : Hid (HV u1 w.heap.size [.int .i64 addr, .int .i64 id, .bool want, .int .i64 per, .int .i64 3, .int .i64 fails, .bool tried, .int .i64 0, .int .i64 bad]) := Fd.out.ext x1
  have Fa : Hid (HV u1 (w.heap.size + 1) [.int .i64 ast, .slice da data.length c]) := Fa.out.ext x1
  have Fr : Hid (HV u1 (w.heap.size + 1 + 1) [.int .i64 0, .int .i64 0, .bool false, .int .i64 0, .int .i64 0, .int .i64 0, .bool false, .int .i64 0, .int .i64 0]) := Fr.out.ext x1
  have FX : Hid (Ext w u1) := FX.out.trans x1
  clear qd0 qd1 qd2 qd3 qd4 qd5 qd6 qd7 qd8 x1 HN
  have ltdt : w.heap.size < u1.heap.size := Fd.out.1
  have ltat : (w.heap.size + 1) < u1.heap.size := Fa.out.1
  have ltrt : (w.heap.size + 1 + 1) < u1.heap.size := Fr.out.1
  have Lt : Hid (w.heap.size ≤ u1.heap.size) := FX.out.size
  have Fd : Hid (HV (u1.alloc (.cells #[.int .i64 addr, .int .i64 tr, .slice t1 tn tc, .int .i64 tq] 31)) w.heap.size [.int .i64 addr, .int .i64 id, .bool want, .int .i64 per, .int .i64 3, .int .i64 fails, .bool tried, .int .i64 0, .int .i64 bad]) := Fd.out.alloc _
  have Fa : Hid (HV (u1.alloc (.cells #[.int .i64 addr, .int .i64 tr, .slice t1 tn tc, .int .i64 tq] 31)) (w.heap.size + 1) [.int .i64 ast, .slice da data.length c]) := Fa.out.alloc _
  have Fr : Hid (HV (u1.alloc (.cells #[.int .i64 addr, .int .i64 tr, .slice t1 tn tc, .int .i64 tq] 31)) (w.heap.size + 1 + 1) [.int .i64 0, .int .i64 0, .bool false, .int .i64 0, .int .i64 0, .int .i64 0, .bool false, .int .i64 0, .int .i64 0]) := Fr.out.alloc _
  have Ft : Hid (HV (u1.alloc (.cells #[.int .i64 addr, .int .i64 tr, .slice t1 tn tc, .int .i64 tq] 31)) u1.heap.size [.int .i64 addr, .int .i64 tr, .slice t1 tn tc, .int .i64 tq]) := hv_at rfl
  have FX : Hid (Ext w (u1.alloc (.cells #[.int .i64 addr, .int .i64 tr, .slice t1 tn tc, .int .i64 tq] 31))) := FX.out.alloc _
  generalize (u1.alloc (.cells #[.int .i64 addr, .int .i64 tr, .slice t1 tn tc, .int .i64 tq] 31)) = wx1 at *
  generalize u1.heap.size = nt at *
  have qd0 : wx1.cell? ⟨w.heap.size, 0, none⟩ = some (.int .i64 addr) := Fd.out.c 0 rfl
  have qd1 : wx1.cell? ⟨w.heap.size, 1, none⟩ = some (.int .i64 id) := Fd.out.c 1 rfl
  have qd2 : wx1.cell? ⟨w.heap.size, 2, none⟩ = some (.bool want) := Fd.out.c 2 rfl
  have qd3 : wx1.cell? ⟨w.heap.size, 3, none⟩ = some (.int .i64 per) := Fd.out.c 3 rfl
  have qd4 : wx1.cell? ⟨w.heap.size, 4, none⟩ = some (.int .i64 3) := Fd.out.c 4 rfl
  have qd5 : wx1.cell? ⟨w.heap.size, 5, none⟩ = some (.int .i64 fails) := Fd.out.c 5 rfl
  have qd6 : wx1.cell? ⟨w.heap.size, 6, none⟩ = some (.bool tried) := Fd.out.c 6 rfl
  have qd7 : wx1.cell? ⟨w.heap.size, 7, none⟩ = some (.int .i64 0) := Fd.out.c 7 rfl
  have qd8 : wx1.cell? ⟨w.heap.size, 8, none⟩ = some (.int .i64 bad) := Fd.out.c 8 rfl
  have qa0 : wx1.cell? ⟨(w.heap.size + 1), 0, none⟩ = some (.int .i64 ast) := Fa.out.c 0 rfl
  have qa1 : wx1.cell? ⟨(w.heap.size + 1), 1, none⟩ = some (.slice da data.length c) := Fa.out.c 1 rfl
  have qt0 : wx1.cell? ⟨nt, 0, none⟩ = some (.int .i64 addr) := Ft.out.c 0 rfl
  have qt1 : wx1.cell? ⟨nt, 1, none⟩ = some (.int .i64 tr) := Ft.out.c 1 rfl
  have qt2 : wx1.cell? ⟨nt, 2, none⟩ = some (.slice t1 tn tc) := Ft.out.c 2 rfl
  have qt3 : wx1.cell? ⟨nt, 3, none⟩ = some (.int .i64 tq) := Ft.out.c 3 rfl
  go_upto_region 4 with (first | (go_at_call 40; refine (HG.out _ _ _ trivial FX.out).mono ?_; rintro e u2 ⟨rfl, x2⟩))
  have Fd : Hid (HV u2 w.heap.size [.int .i64 addr, .int .i64 id, .bool want, .int .i64 per, .int .i64 3, .int .i64 fails, .bool tried, .int .i64 0, .int .i64 bad]) := Fd.out.ext x2
  have Fa : Hid (HV u2 (w.heap.size + 1) [.int .i64 ast, .slice da data.length c]) := Fa.out.ext x2
  have Fr : Hid (HV u2 (w.heap.size + 1 + 1) [.int .i64 0, .int .i64 0, .bool false, .int .i64 0, .int .i64 0, .int .i64 0, .bool false, .int .i64 0, .int .i64 0]) := Fr.out.ext x2
  have Ft : Hid (HV u2 nt [.int .i64 addr, .int .i64 tr, .slice t1 tn tc, .int .i64 tq]) := Ft.out.ext x2
  have FX : Hid (Ext w u2) := FX.out.trans x2
  clear qd0 qd1 qd2 qd3 qd4 qd5 qd6 qd7 qd8 qa0 qa1 qt0 qt1 qt2 qt3 x2 HG
  have qd0 : u2.cell? ⟨w.heap.size, 0, none⟩ = some (.int .i64 addr) := Fd.out.c 0 rfl
  have qd1 : u2.cell? ⟨w.heap.size, 1, none⟩ = some (.int .i64 id) := Fd.out.c 1 rfl
  have qd2 : u2.cell? ⟨w.heap.size, 2, none⟩ = some (.bool want) := Fd.out.c 2 rfl
  have qd3 : u2.cell? ⟨w.heap.size, 3, none⟩ = some (.int .i64 per) := Fd.out.c 3 rfl
  have qd4 : u2.cell? ⟨w.heap.size, 4, none⟩ = some (.int .i64 3) := Fd.out.c 4 rfl
  have qd5 : u2.cell? ⟨w.heap.size, 5, none⟩ = some (.int .i64 fails) := Fd.out.c 5 rfl
  have qd6 : u2.cell? ⟨w.heap.size, 6, none⟩ = some (.bool tried) := Fd.out.c 6 rfl
  have qd7 : u2.cell? ⟨w.heap.size, 7, none⟩ = some (.int .i64 0) := Fd.out.c 7 rfl
  have qd8 : u2.cell? ⟨w.heap.size, 8, none⟩ = some (.int .i64 bad) := Fd.out.c 8 rfl
  have zd0 : u2.frozen? ⟨w.heap.size, 0, none⟩ = false := Fd.out.f 0 rfl
  have zd1 : u2.frozen? ⟨w.heap.size, 1, none⟩ = false := Fd.out.f 1 rfl
  have zd2 : u2.frozen? ⟨w.heap.size, 2, none⟩ = false := Fd.out.f 2 rfl
  have zd3 : u2.frozen? ⟨w.heap.size, 3, none⟩ = false := Fd.out.f 3 rfl
  have zd4 : u2.frozen? ⟨w.heap.size, 4, none⟩ = false := Fd.out.f 4 rfl
  have zd5 : u2.frozen? ⟨w.heap.size, 5, none⟩ = false := Fd.out.f 5 rfl
  have zd6 : u2.frozen? ⟨w.heap.size, 6, none⟩ = false := Fd.out.f 6 rfl
  have zd7 : u2.frozen? ⟨w.heap.size, 7, none⟩ = false := Fd.out.f 7 rfl
  have zd8 : u2.frozen? ⟨w.heap.size, 8, none⟩ = false := Fd.out.f 8 rfl
  have qr0 : u2.cell? ⟨(w.heap.size + 1 + 1), 0, none⟩ = some (.int .i64 0) := Fr.out.c 0 rfl
  have qr1 : u2.cell? ⟨(w.heap.size + 1 + 1), 1, none⟩ = some (.int .i64 0) := Fr.out.c 1 rfl
  have qr2 : u2.cell? ⟨(w.heap.size + 1 + 1), 2, none⟩ = some (.bool false) := Fr.out.c 2 rfl
  have qr3 : u2.cell? ⟨(w.heap.size + 1 + 1), 3, none⟩ = some (.int .i64 0) := Fr.out.c 3 rfl
  have qr4 : u2.cell? ⟨(w.heap.size + 1 + 1), 4, none⟩ = some (.int .i64 0) := Fr.out.c 4 rfl
  have qr5 : u2.cell? ⟨(w.heap.size + 1 + 1), 5, none⟩ = some (.int .i64 0) := Fr.out.c 5 rfl
  have qr6 : u2.cell? ⟨(w.heap.size + 1 + 1), 6, none⟩ = some (.bool false) := Fr.out.c 6 rfl
  have qr7 : u2.cell? ⟨(w.heap.size + 1 + 1), 7, none⟩ = some (.int .i64 0) := Fr.out.c 7 rfl
  have qr8 : u2.cell? ⟨(w.heap.size + 1 + 1), 8, none⟩ = some (.int .i64 0) := Fr.out.c 8 rfl
  have zr0 : u2.frozen? ⟨(w.heap.size + 1 + 1), 0, none⟩ = false := Fr.out.f 0 rfl
  have zr1 : u2.frozen? ⟨(w.heap.size + 1 + 1), 1, none⟩ = false := Fr.out.f 1 rfl
  have zr2 : u2.frozen? ⟨(w.heap.size + 1 + 1), 2, none⟩ = false := Fr.out.f 2 rfl
  have zr3 : u2.frozen? ⟨(w.heap.size + 1 + 1), 3, none⟩ = false := Fr.out.f 3 rfl
  have zr4 : u2.frozen? ⟨(w.heap.size + 1 + 1), 4, none⟩ = false := Fr.out.f 4 rfl
  have zr5 : u2.frozen? ⟨(w.heap.size + 1 + 1), 5, none⟩ = false := Fr.out.f 5 rfl
  have zr6 : u2.frozen? ⟨(w.heap.size + 1 + 1), 6, none⟩ = false := Fr.out.f 6 rfl
  have zr7 : u2.frozen? ⟨(w.heap.size + 1 + 1), 7, none⟩ = false := Fr.out.f 7 rfl
  have zr8 : u2.frozen? ⟨(w.heap.size + 1 + 1), 8, none⟩ = false := Fr.out.f 8 rfl
  have fx : Ext w u2 := FX.out
  go_wp2_with fail
  refine bodyPost_ret (v := .tuple #[.agg #[.int .i64 addr, .int .i64 id, .bool want, .int .i64 per, .int .i64 4, .int .i64 0, .bool false, .int .i64 0, .int .i64 bad], .slice none 0 0, .bool false]) (by simp [results, Try.results17, go_sem, qr0, qr1, qr2, qr3, qr4, qr5, qr6, qr7, qr8]) rfl ⟨_, rfl, rawsAt_nil _ _, ?_⟩
  repeat (first | with_reducible assumption | with_reducible exact Ext.refl _ | with_reducible refine Ext.drew ?_ | with_reducible refine Ext.drewN ?_ _ | with_reducible refine Ext.alloc ?_ _ | with_reducible refine Ext.set ?_ (by first | exact Nat.le_refl _ | (dsimp only; omega) | (simp; done)) _)
set_option maxRecDepth 20000 in
set_option maxHeartbeats 8000000 in
theorem rtake6 (addr id : Int) (want : Bool) (per fails : Int) (tried : Bool) (bad : Int) (hrd : RdY w 0 da data) (hby : ∀ j, 0 ≤ data.getD j 0 ∧ data.getD j 0 ≤ 255) (hgd : goodD ⟨addr, id, want, per, 6, fails, tried, 0, bad⟩ ast data = true) : TakeR w ⟨addr, id, want, per, 6, fails, tried, 0, bad⟩ ast data da c := by
  have HN : Hid (∀ w, Calls Try.prog 16 #[drv ⟨addr, id, want, per, 6, fails, tried, 0, bad⟩] w fun e w' => ∃ a c, e = .returned (.tuple #[txw addr (txReg 6) a (txWr ⟨addr, id, want, per, 6, fails, tried, 0, bad⟩).length c (txRd ⟨addr, id, want, per, 6, fails, tried, 0, bad⟩), .bool true]) ∧ RdY w' w.heap.size a (txWr ⟨addr, id, want, per, 6, fails, tried, 0, bad⟩) ∧ Ext w w') := fun w => rnext_some ⟨addr, id, want, per, 6, fails, tried, 0, bad⟩ rfl w
  have HG : Hid (∀ ta tr tw tl tc W, Ext w W → Calls Try.prog 40 #[drv ⟨addr, id, want, per, 6, fails, tried, 0, bad⟩, txw ta tr tw tl tc (txRd ⟨addr, id, want, per, 6, fails, tried, 0, bad⟩), .agg #[.int .i64 ast, .slice da data.length c]] W fun e w' => e = .returned (.bool (goodD ⟨addr, id, want, per, 6, fails, tried, 0, bad⟩ ast data)) ∧ Ext W w') := fun ta tr tw tl tc W x => rgood_any ⟨addr, id, want, per, 6, fails, tried, 0, bad⟩ ta tr tw tl tc ast data da c W (hrd.ext x) hby
  have et : takeD ⟨addr, id, want, per, 6, fails, tried, 0, bad⟩ ast data = ⟨addr, id, want, per, 0, 0, false, 0, bad⟩ := by unfold takeD; rw [if_pos hgd]; unfold gotD; dsimp only; rw [if_neg (by decide), if_neg (by decide), if_neg (by decide), if_neg (by decide), if_neg (by decide), if_pos rfl]; rfl
  have er : toldD ⟨addr, id, want, per, 6, fails, tried, 0, bad⟩ ast data = [] := told_plain (show (6 : Int) ≠ 5 by decide)
  unfold TakeR
  rw [et, er]
  clear et er hrd hby
  obtain ⟨tr, etr⟩ : ∃ tr, tr = txReg 6 := ⟨_, rfl⟩
  obtain ⟨tn, etn⟩ : ∃ tn, tn = (txWr ⟨addr, id, want, per, 6, fails, tried, 0, bad⟩).length := ⟨_, rfl⟩
  obtain ⟨tq, etq⟩ : ∃ tq, tq = txRd ⟨addr, id, want, per, 6, fails, tried, 0, bad⟩ := ⟨_, rfl⟩
  have HN : Hid (∀ w, Calls Try.prog 16 #[drv ⟨addr, id, want, per, 6, fails, tried, 0, bad⟩] w fun e w' => ∃ a c, e = .returned (.tuple #[.agg #[.int .i64 addr, .int .i64 tr, .slice a tn c, .int .i64 tq], .bool true]) ∧ RdY w' w.heap.size a (txWr ⟨addr, id, want, per, 6, fails, tried, 0, bad⟩) ∧ Ext w w') := by
    rw [etr, etn, etq]; exact HN
  have HG : Hid (∀ tw tc (W : World), True → Ext w W → Calls Try.prog 40 #[drv ⟨addr, id, want, per, 6, fails, tried, 0, bad⟩, .agg #[.int .i64 addr, .int .i64 tr, .slice tw tn tc, .int .i64 tq], .agg #[.int .i64 ast, .slice da data.length c]] W fun e w' => e = .returned (.bool true) ∧ Ext W w') := by
    intro tw tc W _ x
    have h := HG.out addr tr tw tn tc W x
    rw [hgd, ← etq] at h
    exact h
  clear etr etn etq
  have Fd : Hid (HV (((w.alloc (.cells #[.int .i64 addr, .int .i64 id, .bool want, .int .i64 per, .int .i64 6, .int .i64 fails, .bool tried, .int .i64 0, .int .i64 bad] 24)).alloc (.cells #[.int .i64 ast, .slice da data.length c] 27)).alloc (.cells #[.int .i64 0, .int .i64 0, .bool false, .int .i64 0, .int .i64 0, .int .i64 0, .bool false, .int .i64 0, .int .i64 0] 24)) w.heap.size [.int .i64 addr, .int .i64 id, .bool want, .int .i64 per, .int .i64 6, .int .i64 fails, .bool tried, .int .i64 0, .int .i64 bad]) := ((hv_at rfl).alloc _).alloc _
  have Fa : Hid (HV (((w.alloc (.cells #[.int .i64 addr, .int .i64 id, .bool want, .int .i64 per, .int .i64 6, .int .i64 fails, .bool tried, .int .i64 0, .int .i64 bad] 24)).alloc (.cells #[.int .i64 ast, .slice da data.length c] 27)).alloc (.cells #[.int .i64 0, .int .i64 0, .bool false, .int .i64 0, .int .i64 0, .int .i64 0, .bool false, .int .i64 0, .int .i64 0] 24)) (w.heap.size + 1) [.int .i64 ast, .slice da data.length c]) := (hv_at (by simp)).alloc _
  have Fr : Hid (HV (((w.alloc (.cells #[.int .i64 addr, .int .i64 id, .bool want, .int .i64 per, .int .i64 6, .int .i64 fails, .bool tried, .int .i64 0, .int .i64 bad] 24)).alloc (.cells #[.int .i64 ast, .slice da data.length c] 27)).alloc (.cells #[.int .i64 0, .int .i64 0, .bool false, .int .i64 0, .int .i64 0, .int .i64 0, .bool false, .int .i64 0, .int .i64 0] 24)) (w.heap.size + 1 + 1) [.int .i64 0, .int .i64 0, .bool false, .int .i64 0, .int .i64 0, .int .i64 0, .bool false, .int .i64 0, .int .i64 0]) := hv_at (by simp)
  have FX : Hid (Ext w (((w.alloc (.cells #[.int .i64 addr, .int .i64 id, .bool want, .int .i64 per, .int .i64 6, .int .i64 fails, .bool tried, .int .i64 0, .int .i64 bad] 24)).alloc (.cells #[.int .i64 ast, .slice da data.length c] 27)).alloc (.cells #[.int .i64 0, .int .i64 0, .bool false, .int .i64 0, .int .i64 0, .int .i64 0, .bool false, .int .i64 0, .int .i64 0] 24))) := (((Ext.refl w).alloc _).alloc _).alloc _
  have Ld : Hid (w.heap.size ≤ w.heap.size) := Nat.le_refl _
  have Lr : Hid (w.heap.size ≤ w.heap.size + 1 + 1) := by show w.heap.size ≤ w.heap.size + 1 + 1; omega
  go_enter Try.func17, Try.ntmps17
  go_upto_region 1 with fail
  generalize (((w.alloc (.cells #[.int .i64 addr, .int .i64 id, .bool want, .int .i64 per, .int .i64 6, .int .i64 fails, .bool tried, .int .i64 0, .int .i64 bad] 24)).alloc (.cells #[.int .i64 ast, .slice da data.length c] 27)).alloc (.cells #[.int .i64 0, .int .i64 0, .bool false, .int .i64 0, .int .i64 0, .int .i64 0, .bool false, .int .i64 0, .int .i64 0] 24)) = wa at *
  have qd0 : wa.cell? ⟨w.heap.size, 0, none⟩ = some (.int .i64 addr) := Fd.out.c 0 rfl
  have qd1 : wa.cell? ⟨w.heap.size, 1, none⟩ = some (.int .i64 id) := Fd.out.c 1 rfl
  have qd2 : wa.cell? ⟨w.heap.size, 2, none⟩ = some (.bool want) := Fd.out.c 2 rfl
  have qd3 : wa.cell? ⟨w.heap.size, 3, none⟩ = some (.int .i64 per) := Fd.out.c 3 rfl
  have qd4 : wa.cell? ⟨w.heap.size, 4, none⟩ = some (.int .i64 6) := Fd.out.c 4 rfl
  have qd5 : wa.cell? ⟨w.heap.size, 5, none⟩ = some (.int .i64 fails) := Fd.out.c 5 rfl
  have qd6 : wa.cell? ⟨w.heap.size, 6, none⟩ = some (.bool tried) := Fd.out.c 6 rfl
  have qd7 : wa.cell? ⟨w.heap.size, 7, none⟩ = some (.int .i64 0) := Fd.out.c 7 rfl
  have qd8 : wa.cell? ⟨w.heap.size, 8, none⟩ = some (.int .i64 bad) := Fd.out.c 8 rfl
  go_upto_region 2 with (first | (go_at_call 16; refine (HN.out _).mono ?_; rintro e u1 ⟨t1, tc, rfl, _, x1⟩))
  have Fd : Hid (HV u1 w.heap.size [.int .i64 addr, .int .i64 id, .bool want, .int .i64 per, .int .i64 6, .int .i64 fails, .bool tried, .int .i64 0, .int .i64 bad]) := Fd.out.ext x1
  have Fa : Hid (HV u1 (w.heap.size + 1) [.int .i64 ast, .slice da data.length c]) := Fa.out.ext x1
  have Fr : Hid (HV u1 (w.heap.size + 1 + 1) [.int .i64 0, .int .i64 0, .bool false, .int .i64 0, .int .i64 0, .int .i64 0, .bool false, .int .i64 0, .int .i64 0]) := Fr.out.ext x1
  have FX : Hid (Ext w u1) := FX.out.trans x1
  clear qd0 qd1 qd2 qd3 qd4 qd5 qd6 qd7 qd8 x1 HN
  have ltdt : w.heap.size < u1.heap.size := Fd.out.1
  have ltat : (w.heap.size + 1) < u1.heap.size := Fa.out.1
  have ltrt : (w.heap.size + 1 + 1) < u1.heap.size := Fr.out.1
  have Lt : Hid (w.heap.size ≤ u1.heap.size) := FX.out.size
  have Fd : Hid (HV (u1.alloc (.cells #[.int .i64 addr, .int .i64 tr, .slice t1 tn tc, .int .i64 tq] 31)) w.heap.size [.int .i64 addr, .int .i64 id, .bool want, .int .i64 per, .int .i64 6, .int .i64 fails, .bool tried, .int .i64 0, .int .i64 bad]) := Fd.out.alloc _
  have Fa : Hid (HV (u1.alloc (.cells #[.int .i64 addr, .int .i64 tr, .slice t1 tn tc, .int .i64 tq] 31)) (w.heap.size + 1) [.int .i64 ast, .slice da data.length c]) := Fa.out.alloc _
  have Fr : Hid (HV (u1.alloc (.cells #[.int .i64 addr, .int .i64 tr, .slice t1 tn tc, .int .i64 tq] 31)) (w.heap.size + 1 + 1) [.int .i64 0, .int .i64 0, .bool false, .int .i64 0, .int .i64 0, .int .i64 0, .bool false, .int .i64 0, .int .i64 0]) := Fr.out.alloc _
  have Ft : Hid (HV (u1.alloc (.cells #[.int .i64 addr, .int .i64 tr, .slice t1 tn tc, .int .i64 tq] 31)) u1.heap.size [.int .i64 addr, .int .i64 tr, .slice t1 tn tc, .int .i64 tq]) := hv_at rfl
  have FX : Hid (Ext w (u1.alloc (.cells #[.int .i64 addr, .int .i64 tr, .slice t1 tn tc, .int .i64 tq] 31))) := FX.out.alloc _
  generalize (u1.alloc (.cells #[.int .i64 addr, .int .i64 tr, .slice t1 tn tc, .int .i64 tq] 31)) = wx1 at *
  generalize u1.heap.size = nt at *
  have qd0 : wx1.cell? ⟨w.heap.size, 0, none⟩ = some (.int .i64 addr) := Fd.out.c 0 rfl
  have qd1 : wx1.cell? ⟨w.heap.size, 1, none⟩ = some (.int .i64 id) := Fd.out.c 1 rfl
  have qd2 : wx1.cell? ⟨w.heap.size, 2, none⟩ = some (.bool want) := Fd.out.c 2 rfl
  have qd3 : wx1.cell? ⟨w.heap.size, 3, none⟩ = some (.int .i64 per) := Fd.out.c 3 rfl
  have qd4 : wx1.cell? ⟨w.heap.size, 4, none⟩ = some (.int .i64 6) := Fd.out.c 4 rfl
  have qd5 : wx1.cell? ⟨w.heap.size, 5, none⟩ = some (.int .i64 fails) := Fd.out.c 5 rfl
  have qd6 : wx1.cell? ⟨w.heap.size, 6, none⟩ = some (.bool tried) := Fd.out.c 6 rfl
  have qd7 : wx1.cell? ⟨w.heap.size, 7, none⟩ = some (.int .i64 0) := Fd.out.c 7 rfl
  have qd8 : wx1.cell? ⟨w.heap.size, 8, none⟩ = some (.int .i64 bad) := Fd.out.c 8 rfl
  have qa0 : wx1.cell? ⟨(w.heap.size + 1), 0, none⟩ = some (.int .i64 ast) := Fa.out.c 0 rfl
  have qa1 : wx1.cell? ⟨(w.heap.size + 1), 1, none⟩ = some (.slice da data.length c) := Fa.out.c 1 rfl
  have qt0 : wx1.cell? ⟨nt, 0, none⟩ = some (.int .i64 addr) := Ft.out.c 0 rfl
  have qt1 : wx1.cell? ⟨nt, 1, none⟩ = some (.int .i64 tr) := Ft.out.c 1 rfl
  have qt2 : wx1.cell? ⟨nt, 2, none⟩ = some (.slice t1 tn tc) := Ft.out.c 2 rfl
  have qt3 : wx1.cell? ⟨nt, 3, none⟩ = some (.int .i64 tq) := Ft.out.c 3 rfl
  go_upto_region 4 with (first | (go_at_call 40; refine (HG.out _ _ _ trivial FX.out).mono ?_; rintro e u2 ⟨rfl, x2⟩))
  have Fd : Hid (HV u2 w.heap.size [.int .i64 addr, .int .i64 id, .bool want, .int .i64 per, .int .i64 6, .int .i64 fails, .bool tried, .int .i64 0, .int .i64 bad]) := Fd.out.ext x2
  have Fa : Hid (HV u2 (w.heap.size + 1) [.int .i64 ast, .slice da data.length c]) := Fa.out.ext x2
  have Fr : Hid (HV u2 (w.heap.size + 1 + 1) [.int .i64 0, .int .i64 0, .bool false, .int .i64 0, .int .i64 0, .int .i64 0, .bool false, .int .i64 0, .int .i64 0]) := Fr.out.ext x2
  have Ft : Hid (HV u2 nt [.int .i64 addr, .int .i64 tr, .slice t1 tn tc, .int .i64 tq]) := Ft.out.ext x2
  have FX : Hid (Ext w u2) := FX.out.trans x2
  clear qd0 qd1 qd2 qd3 qd4 qd5 qd6 qd7 qd8 qa0 qa1 qt0 qt1 qt2 qt3 x2 HG
  have qd0 : u2.cell? ⟨w.heap.size, 0, none⟩ = some (.int .i64 addr) := Fd.out.c 0 rfl
  have qd1 : u2.cell? ⟨w.heap.size, 1, none⟩ = some (.int .i64 id) := Fd.out.c 1 rfl
  have qd2 : u2.cell? ⟨w.heap.size, 2, none⟩ = some (.bool want) := Fd.out.c 2 rfl
  have qd3 : u2.cell? ⟨w.heap.size, 3, none⟩ = some (.int .i64 per) := Fd.out.c 3 rfl
  have qd4 : u2.cell? ⟨w.heap.size, 4, none⟩ = some (.int .i64 6) := Fd.out.c 4 rfl
  have qd5 : u2.cell? ⟨w.heap.size, 5, none⟩ = some (.int .i64 fails) := Fd.out.c 5 rfl
  have qd6 : u2.cell? ⟨w.heap.size, 6, none⟩ = some (.bool tried) := Fd.out.c 6 rfl
  have qd7 : u2.cell? ⟨w.heap.size, 7, none⟩ = some (.int .i64 0) := Fd.out.c 7 rfl
  have qd8 : u2.cell? ⟨w.heap.size, 8, none⟩ = some (.int .i64 bad) := Fd.out.c 8 rfl
  have zd0 : u2.frozen? ⟨w.heap.size, 0, none⟩ = false := Fd.out.f 0 rfl
  have zd1 : u2.frozen? ⟨w.heap.size, 1, none⟩ = false := Fd.out.f 1 rfl
  have zd2 : u2.frozen? ⟨w.heap.size, 2, none⟩ = false := Fd.out.f 2 rfl
  have zd3 : u2.frozen? ⟨w.heap.size, 3, none⟩ = false := Fd.out.f 3 rfl
  have zd4 : u2.frozen? ⟨w.heap.size, 4, none⟩ = false := Fd.out.f 4 rfl
  have zd5 : u2.frozen? ⟨w.heap.size, 5, none⟩ = false := Fd.out.f 5 rfl
  have zd6 : u2.frozen? ⟨w.heap.size, 6, none⟩ = false := Fd.out.f 6 rfl
  have zd7 : u2.frozen? ⟨w.heap.size, 7, none⟩ = false := Fd.out.f 7 rfl
  have zd8 : u2.frozen? ⟨w.heap.size, 8, none⟩ = false := Fd.out.f 8 rfl
  have qr0 : u2.cell? ⟨(w.heap.size + 1 + 1), 0, none⟩ = some (.int .i64 0) := Fr.out.c 0 rfl
  have qr1 : u2.cell? ⟨(w.heap.size + 1 + 1), 1, none⟩ = some (.int .i64 0) := Fr.out.c 1 rfl
  have qr2 : u2.cell? ⟨(w.heap.size + 1 + 1), 2, none⟩ = some (.bool false) := Fr.out.c 2 rfl
  have qr3 : u2.cell? ⟨(w.heap.size + 1 + 1), 3, none⟩ = some (.int .i64 0) := Fr.out.c 3 rfl
  have qr4 : u2.cell? ⟨(w.heap.size + 1 + 1), 4, none⟩ = some (.int .i64 0) := Fr.out.c 4 rfl
  have qr5 : u2.cell? ⟨(w.heap.size + 1 + 1), 5, none⟩ = some (.int .i64 0) := Fr.out.c 5 rfl
  have qr6 : u2.cell? ⟨(w.heap.size + 1 + 1), 6, none⟩ = some (.bool false) := Fr.out.c 6 rfl
  have qr7 : u2.cell? ⟨(w.heap.size + 1 + 1), 7, none⟩ = some (.int .i64 0) := Fr.out.c 7 rfl
  have qr8 : u2.cell? ⟨(w.heap.size + 1 + 1), 8, none⟩ = some (.int .i64 0) := Fr.out.c 8 rfl
  have zr0 : u2.frozen? ⟨(w.heap.size + 1 + 1), 0, none⟩ = false := Fr.out.f 0 rfl
  have zr1 : u2.frozen? ⟨(w.heap.size + 1 + 1), 1, none⟩ = false := Fr.out.f 1 rfl
  have zr2 : u2.frozen? ⟨(w.heap.size + 1 + 1), 2, none⟩ = false := Fr.out.f 2 rfl
  have zr3 : u2.frozen? ⟨(w.heap.size + 1 + 1), 3, none⟩ = false := Fr.out.f 3 rfl
  have zr4 : u2.frozen? ⟨(w.heap.size + 1 + 1), 4, none⟩ = false := Fr.out.f 4 rfl
  have zr5 : u2.frozen? ⟨(w.heap.size + 1 + 1), 5, none⟩ = false := Fr.out.f 5 rfl
  have zr6 : u2.frozen? ⟨(w.heap.size + 1 + 1), 6, none⟩ = false := Fr.out.f 6 rfl
  have zr7 : u2.frozen? ⟨(w.heap.size + 1 + 1), 7, none⟩ = false := Fr.out.f 7 rfl
  have zr8 : u2.frozen? ⟨(w.heap.size + 1 + 1), 8, none⟩ = false := Fr.out.f 8 rfl
  have fx : Ext w u2 := FX.out
  go_wp2_with fail
  refine bodyPost_ret (v := .tuple #[.agg #[.int .i64 addr, .int .i64 id, .bool want, .int .i64 per, .int .i64 0, .int .i64 0, .bool false, .int .i64 0, .int .i64 bad], .slice none 0 0, .bool false]) (by simp [results, Try.results17, go_sem, qr0, qr1, qr2, qr3, qr4, qr5, qr6, qr7, qr8]) rfl ⟨_, rfl, rawsAt_nil _ _, ?_⟩
  repeat (first | with_reducible assumption | with_reducible exact Ext.refl _ | with_reducible refine Ext.drew ?_ | with_reducible refine Ext.drewN ?_ _ | with_reducible refine Ext.alloc ?_ _ | with_reducible refine Ext.set ?_ (by first | exact Nat.le_refl _ | (dsimp only; omega) | (simp; done)) _)
end
end Go.Proofs.Ytdfhhfpfnkjbnaa
