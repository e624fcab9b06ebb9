/- gimbalref9: Take of samples. -/
import Derived.Test.YtdfhhfpfnkjbnaaFc
import Derived.Deep.RegionHeldLaw
import Derived.Deep.RegionHeld3
import Derived.Deep.QuietTactic
import Derived.BigQuiet
namespace Go.Proofs.Ytdfhhfpfnkjbnaa
open Go.RowKit Go.Conc
section
variable {w : World} {ast : Int} {data : List Int} {da : Option Addr} {c : Nat}
/-- what a round begins with -/
def TRel (w wr : World) (B0 B1 B2 : Nat) (dcs acs rcs : List Value) (l : List Raw) (v : Value) : Prop := HV wr B0 dcs ∧ HV wr B1 acs ∧ HV wr B2 rcs ∧ RawsAt (w.heap.size + 3) l wr v ∧ Ext w wr
theorem TRel.ext {w W W' : World} {B0 B1 B2 : Nat} {dcs acs rcs : List Value} {l : List Raw} {v : Value} (h : TRel w W B0 B1 B2 dcs acs rcs l v) (x : Ext W W') : TRel w W' B0 B1 B2 dcs acs rcs l v :=
  ⟨h.1.ext x, h.2.1.ext x, h.2.2.1.ext x, drow_ext h.2.2.2.1 x, h.2.2.2.2.trans x⟩
theorem trel_more {w W w9 : World} {B0 B1 B2 : Nat} {dcs acs rcs : List Value} {l : List Raw} {v : Value} (h : TRel w W B0 B1 B2 dcs acs rcs l v) (h0 : B0 < w.heap.size + 3) (h1 : B1 < w.heap.size + 3) (h2 : B2 < w.heap.size + 3) (r : Raw) {g cap : Nat}
    (ho : w9.ownsRow (w.heap.size + 3) 72 4 (.slice (some ⟨g, 0, none⟩) (l.length + 1) cap) (l.length + 1) (rvs l ++ [(.int .i64 r.x : Value), .int .i64 r.y, .int .i64 r.z, .int .i64 r.t])) (hg : W.grownBy w9 v.ownBlock) :
    TRel w w9 B0 B1 B2 dcs acs rcs (l ++ [r]) (.slice (some ⟨g, 0, none⟩) (l.length + 1) cap) := by
  have hf : ∀ b, b < w.heap.size + 3 → v.ownBlock ≠ some b := fun b hb e => by have := (h.2.2.2.1.lt b e).1; omega
  refine ⟨h.1.grown hg (hf _ h0), h.2.1.grown hg (hf _ h1), h.2.2.1.grown hg (hf _ h2), ?_, row_grown hg h.2.2.2.1 h.2.2.2.2 (by omega)⟩
  unfold RawsAt
  rw [rvs_snoc, List.length_append]
  exact ho
theorem trel_bad {w W : World} {acs rcs : List Value} {l : List Raw} {v : Value} {dcs : List Value} (h : TRel w W w.heap.size (w.heap.size + 1) (w.heap.size + 1 + 1) dcs acs rcs l v) (j : Nat) (u : Value) :
    TRel w (W.setCell ⟨w.heap.size, j, none⟩ u) w.heap.size (w.heap.size + 1) (w.heap.size + 1 + 1) (dcs.set j u) acs rcs l v :=
  ⟨h.1.set j u, h.2.1.far (by omega), h.2.2.1.far (by omega), drow_tn h.2.2.2.1 ((Tn.refl (fun k => k = w.heap.size) W).set (.inl rfl) _ _) (fun k hk _ e => by omega), h.2.2.2.2.set (p := ⟨w.heap.size, j, none⟩) (Nat.le_refl _) u⟩
theorem meas_lt (p L : Nat) (h : p < L) : L - ((p : Int) + 8).toNat < L - ((p : Int)).toNat := by omega
theorem idx_eq (p : Nat) : (Value.int .i64 ((p : Int) + 8)) = .int .i64 ((p + 8 : Nat) : Int) := rfl
theorem chunk_ok {data : List Int} (hby : ∀ j, 0 ≤ data.getD j 0 ∧ data.getD j 0 ≤ 255) (k : Nat) : (chunkB data k).ok := fun j hj => by rw [chunkB_at _ _ _ hj]; exact hby _
set_option maxRecDepth 20000 in
set_option maxHeartbeats 20000000 in
theorem rtake5 (addr id : Int) (want : Bool) (per fails : Int) (tried : Bool) (m : Nat) (bad : Int) (hok : okD ⟨addr, id, want, per, 5, fails, tried, (m : Int), bad⟩ = true) (hcap : data.length ≤ c) (hrd : RdY w 0 da data) (hby : ∀ j, 0 ≤ data.getD j 0 ∧ data.getD j 0 ≤ 255) (hgd : goodD ⟨addr, id, want, per, 5, fails, tried, (m : Int), bad⟩ ast data = true) : TakeR w ⟨addr, id, want, per, 5, fails, tried, (m : Int), bad⟩ ast data da c := by
  have HN : Hid (∀ w, Calls Try.prog 16 #[drv ⟨addr, id, want, per, 5, fails, tried, (m : Int), bad⟩] w fun e w' => ∃ a c, e = .returned (.tuple #[txw addr (txReg 5) a (txWr ⟨addr, id, want, per, 5, fails, tried, (m : Int), bad⟩).length c (txRd ⟨addr, id, want, per, 5, fails, tried, (m : Int), bad⟩), .bool true]) ∧ RdY w' w.heap.size a (txWr ⟨addr, id, want, per, 5, fails, tried, (m : Int), bad⟩) ∧ Ext w w') := fun w => rnext_some ⟨addr, id, want, per, 5, fails, tried, (m : Int), bad⟩ rfl w
  have HG : Hid (∀ ta tr tw tl tc W, Ext w W → Calls Try.prog 40 #[drv ⟨addr, id, want, per, 5, fails, tried, (m : Int), bad⟩, txw ta tr tw tl tc (txRd ⟨addr, id, want, per, 5, fails, tried, (m : Int), bad⟩), .agg #[.int .i64 ast, .slice da data.length c]] W fun e w' => e = .returned (.bool (goodD ⟨addr, id, want, per, 5, fails, tried, (m : Int), bad⟩ ast data)) ∧ Ext W w') := fun ta tr tw tl tc W x => rgood_any ⟨addr, id, want, per, 5, fails, tried, (m : Int), bad⟩ ta tr tw tl tc ast data da c W (hrd.ext x) hby
  obtain ⟨_, _, _, _, _, hl0, hb0⟩ := okD_iff.1 hok
  have hl : 1 ≤ (m : Int) ∧ (m : Int) ≤ 16 := inn_iff.1 hl0
  have hb : 0 ≤ bad ∧ bad ≤ 1099511627776 := hb0
  have htx : txRd ⟨addr, id, want, per, 5, fails, tried, (m : Int), bad⟩ = 8 * (m : Int) := by
    unfold txRd
    dsimp only
    rw [if_neg (by decide), if_neg (by decide), if_pos rfl]
    unfold wrap64
    omega
  have hlen : data.length = 8 * m := by
    have h := hgd
    unfold goodD at h
    simp only [Bool.and_eq_true, decide_eq_true_eq] at h
    have h2 := h.2.1
    clear h
    rw [htx] at h2
    clear htx hgd hok
    omega
  have et : takeD ⟨addr, id, want, per, 5, fails, tried, (m : Int), bad⟩ ast data = ⟨addr, id, want, per, 4, 0, tried, 0, (smps (chunkB data) bad (List.range m)).2⟩ := by
    unfold takeD; rw [if_pos hgd]; unfold gotD; dsimp only
    rw [if_neg (by decide), if_neg (by decide), if_neg (by decide), if_neg (by decide), if_pos rfl, Int.toNat_natCast]
    rfl
  have er : toldD ⟨addr, id, want, per, 5, fails, tried, (m : Int), bad⟩ ast data = (smps (chunkB data) bad (List.range m)).1 := by
    unfold toldD; rw [if_pos hgd]; unfold rawsD; dsimp only
    rw [if_pos rfl, Int.toNat_natCast]
  obtain ⟨g, o, eda, _, _⟩ := hrd 0 (by omega)
  have HC : Hid (∀ W, Ext w W → ∀ k, k < m → ∀ j, j < 8 → W.cell? ⟨g, o + 8 * k + j, none⟩ = some (.int .u8 ((chunkB data k).at j))) := fun W x k hk j hj => by
    obtain ⟨b, off, e2, _, h2⟩ := hrd (8 * k + j) (by omega)
    rw [eda] at e2
    cases e2
    rw [chunkB_at _ _ _ hj, Nat.add_assoc]
    exact x.keepc h2
  have HOK : Hid (∀ k, (chunkB data k).ok) := chunk_ok hby
  subst eda
  unfold TakeR
  rw [et, er]
  have HG2 : Hid (∀ ta tr tw tl tc W, Ext w W → Calls Try.prog 40 #[drv ⟨addr, id, want, per, 5, fails, tried, (m : Int), bad⟩, txw ta tr tw tl tc (txRd ⟨addr, id, want, per, 5, fails, tried, (m : Int), bad⟩), .agg #[.int .i64 ast, .slice (some ⟨g, o, none⟩) data.length c]] W fun e w' => e = .returned (.bool true) ∧ Ext W w') := by
    intro ta tr tw tl tc W x
    have h := HG.out ta tr tw tl tc W x
    rw [hgd] at h
    exact h
  obtain ⟨SS2, hSS⟩ : ∃ X : Nat → List Raw × Int, X = fun k => smps (chunkB data) bad (List.range k) := ⟨_, rfl⟩
  have H0 : Hid (SS2 0 = ([], bad)) := by rw [hSS]; rfl
  have HST : Hid (∀ k, SS2 (k + 1) = smpStep (chunkB data) (SS2 k) k) := by rw [hSS]; intro k; show smps _ _ (List.range (k + 1)) = _; rw [List.range_succ, smps_snoc]
  have HSB : Hid (∀ k, 0 ≤ (SS2 k).2 ∧ (SS2 k).2 ≤ 1099511627776 ∧ (SS2 k).1.length ≤ k) := by
    rw [hSS]; intro k
    have h1 := smps_bad (chunkB data) bad hb (List.range k)
    have h2 := smps_len (chunkB data) bad (List.range k)
    rw [List.length_range] at h2
    exact ⟨h1.1, h1.2, h2⟩
  have eS : smps (chunkB data) bad (List.range m) = SS2 m := by rw [hSS]
  rw [eS]
  obtain ⟨L, hL⟩ : ∃ L, data.length = L := ⟨_, rfl⟩
  rw [hL] at HG2 ⊢
  have HM : Hid (1 ≤ m ∧ m ≤ 16 ∧ L ≤ c ∧ L = 8 * m) := ⟨by omega, by omega, by omega, by omega⟩
  clear eS hSS et er hL hlen htx hok hl0 hb0 hb hl HG hby hcap hgd
  obtain ⟨i0, hi, hz0, hz1, hz2⟩ := dinfo
  generalize chunkB data = C at *
  clear hrd
  obtain ⟨tr, etr⟩ : ∃ tr, tr = txReg 5 := ⟨_, rfl⟩
  obtain ⟨tn, etn⟩ : ∃ tn, tn = (txWr ⟨addr, id, want, per, 5, fails, tried, (m : Int), bad⟩).length := ⟨_, rfl⟩
  obtain ⟨tq, etq⟩ : ∃ tq, tq = txRd ⟨addr, id, want, per, 5, fails, tried, (m : Int), bad⟩ := ⟨_, rfl⟩
  have HN : Hid (∀ w, Calls Try.prog 16 #[drv ⟨addr, id, want, per, 5, fails, tried, (m : Int), bad⟩] w fun e w' => ∃ a c, e = .returned (.tuple #[.agg #[.int .i64 addr, .int .i64 tr, .slice a tn c, .int .i64 tq], .bool true]) ∧ RdY w' w.heap.size a (txWr ⟨addr, id, want, per, 5, fails, tried, (m : Int), bad⟩) ∧ Ext w w') := by
    rw [etr, etn, etq]; exact HN
  have HG : Hid (∀ tw tc (W : World), True → Ext w W → Calls Try.prog 40 #[drv ⟨addr, id, want, per, 5, fails, tried, (m : Int), bad⟩, .agg #[.int .i64 addr, .int .i64 tr, .slice tw tn tc, .int .i64 tq], .agg #[.int .i64 ast, .slice (some ⟨g, o, none⟩) L c]] W fun e w' => e = .returned (.bool true) ∧ Ext W w') := by
    intro tw tc W _ x
    have h := HG2.out addr tr tw tn tc W x
    rw [← etq] at h
    exact h
  clear etr etn etq
  clear HG2
  have Fd : Hid (HV (((w.alloc (.cells #[.int .i64 addr, .int .i64 id, .bool want, .int .i64 per, .int .i64 5, .int .i64 fails, .bool tried, .int .i64 ((m : Int)), .int .i64 bad] 24)).alloc (.cells #[.int .i64 ast, .slice (some ⟨g, o, none⟩) L c] 27)).alloc (.cells #[.int .i64 0, .int .i64 0, .bool false, .int .i64 0, .int .i64 0, .int .i64 0, .bool false, .int .i64 0, .int .i64 0] 24)) w.heap.size [.int .i64 addr, .int .i64 id, .bool want, .int .i64 per, .int .i64 5, .int .i64 fails, .bool tried, .int .i64 ((m : Int)), .int .i64 bad]) := ((hv_at rfl).alloc _).alloc _
  have Fa : Hid (HV (((w.alloc (.cells #[.int .i64 addr, .int .i64 id, .bool want, .int .i64 per, .int .i64 5, .int .i64 fails, .bool tried, .int .i64 ((m : Int)), .int .i64 bad] 24)).alloc (.cells #[.int .i64 ast, .slice (some ⟨g, o, none⟩) L c] 27)).alloc (.cells #[.int .i64 0, .int .i64 0, .bool false, .int .i64 0, .int .i64 0, .int .i64 0, .bool false, .int .i64 0, .int .i64 0] 24)) (w.heap.size + 1) [.int .i64 ast, .slice (some ⟨g, o, none⟩) L c]) := (hv_at (by simp)).alloc _
  have Fr : Hid (HV (((w.alloc (.cells #[.int .i64 addr, .int .i64 id, .bool want, .int .i64 per, .int .i64 5, .int .i64 fails, .bool tried, .int .i64 ((m : Int)), .int .i64 bad] 24)).alloc (.cells #[.int .i64 ast, .slice (some ⟨g, o, none⟩) L c] 27)).alloc (.cells #[.int .i64 0, .int .i64 0, .bool false, .int .i64 0, .int .i64 0, .int .i64 0, .bool false, .int .i64 0, .int .i64 0] 24)) (w.heap.size + 1 + 1) [.int .i64 0, .int .i64 0, .bool false, .int .i64 0, .int .i64 0, .int .i64 0, .bool false, .int .i64 0, .int .i64 0]) := hv_at (by simp)
  have FX : Hid (Ext w (((w.alloc (.cells #[.int .i64 addr, .int .i64 id, .bool want, .int .i64 per, .int .i64 5, .int .i64 fails, .bool tried, .int .i64 ((m : Int)), .int .i64 bad] 24)).alloc (.cells #[.int .i64 ast, .slice (some ⟨g, o, none⟩) L c] 27)).alloc (.cells #[.int .i64 0, .int .i64 0, .bool false, .int .i64 0, .int .i64 0, .int .i64 0, .bool false, .int .i64 0, .int .i64 0] 24))) := (((Ext.refl w).alloc _).alloc _).alloc _
  have Ld : Hid (w.heap.size ≤ w.heap.size) := Nat.le_refl _
  have Lr : Hid (w.heap.size ≤ w.heap.size + 1 + 1) := by show w.heap.size ≤ w.heap.size + 1 + 1; omega
  go_enter Try.func17, Try.ntmps17
  go_upto_region 1 with fail
  generalize (((w.alloc (.cells #[.int .i64 addr, .int .i64 id, .bool want, .int .i64 per, .int .i64 5, .int .i64 fails, .bool tried, .int .i64 ((m : Int)), .int .i64 bad] 24)).alloc (.cells #[.int .i64 ast, .slice (some ⟨g, o, none⟩) L c] 27)).alloc (.cells #[.int .i64 0, .int .i64 0, .bool false, .int .i64 0, .int .i64 0, .int .i64 0, .bool false, .int .i64 0, .int .i64 0] 24)) = wa at *
  have qd0 : wa.cell? ⟨w.heap.size, 0, none⟩ = some (.int .i64 addr) := Fd.out.c 0 rfl
  have qd1 : wa.cell? ⟨w.heap.size, 1, none⟩ = some (.int .i64 id) := Fd.out.c 1 rfl
  have qd2 : wa.cell? ⟨w.heap.size, 2, none⟩ = some (.bool want) := Fd.out.c 2 rfl
  have qd3 : wa.cell? ⟨w.heap.size, 3, none⟩ = some (.int .i64 per) := Fd.out.c 3 rfl
  have qd4 : wa.cell? ⟨w.heap.size, 4, none⟩ = some (.int .i64 5) := Fd.out.c 4 rfl
  have qd5 : wa.cell? ⟨w.heap.size, 5, none⟩ = some (.int .i64 fails) := Fd.out.c 5 rfl
  have qd6 : wa.cell? ⟨w.heap.size, 6, none⟩ = some (.bool tried) := Fd.out.c 6 rfl
  have qd7 : wa.cell? ⟨w.heap.size, 7, none⟩ = some (.int .i64 ((m : Int))) := Fd.out.c 7 rfl
  have qd8 : wa.cell? ⟨w.heap.size, 8, none⟩ = some (.int .i64 bad) := Fd.out.c 8 rfl
  go_upto_region 2 with (first | (go_at_call 16; refine (HN.out _).mono ?_; rintro e u1 ⟨t1, tc, rfl, _, x1⟩))
  have Fd : Hid (HV u1 w.heap.size [.int .i64 addr, .int .i64 id, .bool want, .int .i64 per, .int .i64 5, .int .i64 fails, .bool tried, .int .i64 ((m : Int)), .int .i64 bad]) := Fd.out.ext x1
  have Fa : Hid (HV u1 (w.heap.size + 1) [.int .i64 ast, .slice (some ⟨g, o, none⟩) L c]) := Fa.out.ext x1
  have Fr : Hid (HV u1 (w.heap.size + 1 + 1) [.int .i64 0, .int .i64 0, .bool false, .int .i64 0, .int .i64 0, .int .i64 0, .bool false, .int .i64 0, .int .i64 0]) := Fr.out.ext x1
  have FX : Hid (Ext w u1) := FX.out.trans x1
  clear qd0 qd1 qd2 qd3 qd4 qd5 qd6 qd7 qd8 x1 HN
  have ltdt : w.heap.size < u1.heap.size := Fd.out.1
  have ltat : (w.heap.size + 1) < u1.heap.size := Fa.out.1
  have ltrt : (w.heap.size + 1 + 1) < u1.heap.size := Fr.out.1
  have Lt : Hid (w.heap.size ≤ u1.heap.size) := FX.out.size
  have Fd : Hid (HV (u1.alloc (.cells #[.int .i64 addr, .int .i64 tr, .slice t1 tn tc, .int .i64 tq] 31)) w.heap.size [.int .i64 addr, .int .i64 id, .bool want, .int .i64 per, .int .i64 5, .int .i64 fails, .bool tried, .int .i64 ((m : Int)), .int .i64 bad]) := Fd.out.alloc _
  have Fa : Hid (HV (u1.alloc (.cells #[.int .i64 addr, .int .i64 tr, .slice t1 tn tc, .int .i64 tq] 31)) (w.heap.size + 1) [.int .i64 ast, .slice (some ⟨g, o, none⟩) L c]) := Fa.out.alloc _
  have Fr : Hid (HV (u1.alloc (.cells #[.int .i64 addr, .int .i64 tr, .slice t1 tn tc, .int .i64 tq] 31)) (w.heap.size + 1 + 1) [.int .i64 0, .int .i64 0, .bool false, .int .i64 0, .int .i64 0, .int .i64 0, .bool false, .int .i64 0, .int .i64 0]) := Fr.out.alloc _
  have Ft : Hid (HV (u1.alloc (.cells #[.int .i64 addr, .int .i64 tr, .slice t1 tn tc, .int .i64 tq] 31)) u1.heap.size [.int .i64 addr, .int .i64 tr, .slice t1 tn tc, .int .i64 tq]) := hv_at rfl
  have FX : Hid (Ext w (u1.alloc (.cells #[.int .i64 addr, .int .i64 tr, .slice t1 tn tc, .int .i64 tq] 31))) := FX.out.alloc _
  generalize (u1.alloc (.cells #[.int .i64 addr, .int .i64 tr, .slice t1 tn tc, .int .i64 tq] 31)) = wx1 at *
  generalize u1.heap.size = nt at *
  have qd0 : wx1.cell? ⟨w.heap.size, 0, none⟩ = some (.int .i64 addr) := Fd.out.c 0 rfl
  have qd1 : wx1.cell? ⟨w.heap.size, 1, none⟩ = some (.int .i64 id) := Fd.out.c 1 rfl
  have qd2 : wx1.cell? ⟨w.heap.size, 2, none⟩ = some (.bool want) := Fd.out.c 2 rfl
  have qd3 : wx1.cell? ⟨w.heap.size, 3, none⟩ = some (.int .i64 per) := Fd.out.c 3 rfl
  have qd4 : wx1.cell? ⟨w.heap.size, 4, none⟩ = some (.int .i64 5) := Fd.out.c 4 rfl
  have qd5 : wx1.cell? ⟨w.heap.size, 5, none⟩ = some (.int .i64 fails) := Fd.out.c 5 rfl
  have qd6 : wx1.cell? ⟨w.heap.size, 6, none⟩ = some (.bool tried) := Fd.out.c 6 rfl
  have qd7 : wx1.cell? ⟨w.heap.size, 7, none⟩ = some (.int .i64 ((m : Int))) := Fd.out.c 7 rfl
  have qd8 : wx1.cell? ⟨w.heap.size, 8, none⟩ = some (.int .i64 bad) := Fd.out.c 8 rfl
  have qa0 : wx1.cell? ⟨(w.heap.size + 1), 0, none⟩ = some (.int .i64 ast) := Fa.out.c 0 rfl
  have qa1 : wx1.cell? ⟨(w.heap.size + 1), 1, none⟩ = some (.slice (some ⟨g, o, none⟩) L c) := Fa.out.c 1 rfl
  have qt0 : wx1.cell? ⟨nt, 0, none⟩ = some (.int .i64 addr) := Ft.out.c 0 rfl
  have qt1 : wx1.cell? ⟨nt, 1, none⟩ = some (.int .i64 tr) := Ft.out.c 1 rfl
  have qt2 : wx1.cell? ⟨nt, 2, none⟩ = some (.slice t1 tn tc) := Ft.out.c 2 rfl
  have qt3 : wx1.cell? ⟨nt, 3, none⟩ = some (.int .i64 tq) := Ft.out.c 3 rfl
  go_upto_region 4 with (first | (go_at_call 40; refine (HG.out _ _ _ trivial FX.out).mono ?_; rintro e u2 ⟨rfl, x2⟩))
  have Fd : Hid (HV u2 w.heap.size [.int .i64 addr, .int .i64 id, .bool want, .int .i64 per, .int .i64 5, .int .i64 fails, .bool tried, .int .i64 ((m : Int)), .int .i64 bad]) := Fd.out.ext x2
  have Fa : Hid (HV u2 (w.heap.size + 1) [.int .i64 ast, .slice (some ⟨g, o, none⟩) L c]) := Fa.out.ext x2
  have Fr : Hid (HV u2 (w.heap.size + 1 + 1) [.int .i64 0, .int .i64 0, .bool false, .int .i64 0, .int .i64 0, .int .i64 0, .bool false, .int .i64 0, .int .i64 0]) := Fr.out.ext x2
  have Ft : Hid (HV u2 nt [.int .i64 addr, .int .i64 tr, .slice t1 tn tc, .int .i64 tq]) := Ft.out.ext x2
  have FX : Hid (Ext w u2) := FX.out.trans x2
  clear qd0 qd1 qd2 qd3 qd4 qd5 qd6 qd7 qd8 qa0 qa1 qt0 qt1 qt2 qt3 x2 HG
  have qd0 : u2.cell? ⟨w.heap.size, 0, none⟩ = some (.int .i64 addr) := Fd.out.c 0 rfl
  have qd1 : u2.cell? ⟨w.heap.size, 1, none⟩ = some (.int .i64 id) := Fd.out.c 1 rfl
  have qd2 : u2.cell? ⟨w.heap.size, 2, none⟩ = some (.bool want) := Fd.out.c 2 rfl
  have qd3 : u2.cell? ⟨w.heap.size, 3, none⟩ = some (.int .i64 per) := Fd.out.c 3 rfl
  have qd4 : u2.cell? ⟨w.heap.size, 4, none⟩ = some (.int .i64 5) := Fd.out.c 4 rfl
  have qd5 : u2.cell? ⟨w.heap.size, 5, none⟩ = some (.int .i64 fails) := Fd.out.c 5 rfl
  have qd6 : u2.cell? ⟨w.heap.size, 6, none⟩ = some (.bool tried) := Fd.out.c 6 rfl
  have qd7 : u2.cell? ⟨w.heap.size, 7, none⟩ = some (.int .i64 ((m : Int))) := Fd.out.c 7 rfl
  have qd8 : u2.cell? ⟨w.heap.size, 8, none⟩ = some (.int .i64 bad) := Fd.out.c 8 rfl
  have zd0 : u2.frozen? ⟨w.heap.size, 0, none⟩ = false := Fd.out.f 0 rfl
  have zd1 : u2.frozen? ⟨w.heap.size, 1, none⟩ = false := Fd.out.f 1 rfl
  have zd2 : u2.frozen? ⟨w.heap.size, 2, none⟩ = false := Fd.out.f 2 rfl
  have zd3 : u2.frozen? ⟨w.heap.size, 3, none⟩ = false := Fd.out.f 3 rfl
  have zd4 : u2.frozen? ⟨w.heap.size, 4, none⟩ = false := Fd.out.f 4 rfl
  have zd5 : u2.frozen? ⟨w.heap.size, 5, none⟩ = false := Fd.out.f 5 rfl
  have zd6 : u2.frozen? ⟨w.heap.size, 6, none⟩ = false := Fd.out.f 6 rfl
  have zd7 : u2.frozen? ⟨w.heap.size, 7, none⟩ = false := Fd.out.f 7 rfl
  have zd8 : u2.frozen? ⟨w.heap.size, 8, none⟩ = false := Fd.out.f 8 rfl
  have qa0 : u2.cell? ⟨(w.heap.size + 1), 0, none⟩ = some (.int .i64 ast) := Fa.out.c 0 rfl
  have qa1 : u2.cell? ⟨(w.heap.size + 1), 1, none⟩ = some (.slice (some ⟨g, o, none⟩) L c) := Fa.out.c 1 rfl
  go_upto_region 19 with fail
  clear qd0 qd1 qd2 qd3 qd4 qd5 qd6 qd7 qd8 zd0 zd1 zd2 zd3 zd4 zd5 zd6 zd7 zd8 qa0 qa1
  have Fa : Hid (HV (u2.setCell ⟨w.heap.size, 5, none⟩ (.int .i64 0)) (w.heap.size + 1) [.int .i64 ast, .slice (some ⟨g, o, none⟩) L c]) := (Fa.out.far (by omega))
  have Fr : Hid (HV (u2.setCell ⟨w.heap.size, 5, none⟩ (.int .i64 0)) (w.heap.size + 1 + 1) [.int .i64 0, .int .i64 0, .bool false, .int .i64 0, .int .i64 0, .int .i64 0, .bool false, .int .i64 0, .int .i64 0]) := (Fr.out.far (by omega))
  have Ft : Hid (HV (u2.setCell ⟨w.heap.size, 5, none⟩ (.int .i64 0)) nt [.int .i64 addr, .int .i64 tr, .slice t1 tn tc, .int .i64 tq]) := (Ft.out.far (by omega))
  have Fd : Hid (HV (u2.setCell ⟨w.heap.size, 5, none⟩ (.int .i64 0)) w.heap.size [.int .i64 addr, .int .i64 id, .bool want, .int .i64 per, .int .i64 5, .int .i64 0, .bool tried, .int .i64 ((m : Int)), .int .i64 bad]) := (Fd.out.set 5 (.int .i64 0))
  have FX : Hid (Ext w (u2.setCell ⟨w.heap.size, 5, none⟩ (.int .i64 0))) := (FX.out.set (p := ⟨w.heap.size, 5, none⟩) Ld.out (.int .i64 0))
  generalize (u2.setCell ⟨w.heap.size, 5, none⟩ (.int .i64 0)) = wx2 at *
  generalize wx2 = wb at *
  have HR0 : Hid (TRel w wb w.heap.size (w.heap.size + 1) (w.heap.size + 1 + 1) [.int .i64 addr, .int .i64 id, .bool want, .int .i64 per, .int .i64 5, .int .i64 0, .bool tried, .int .i64 ((m : Int)), .int .i64 ((SS2 0).2)] [.int .i64 ast, .slice (some ⟨g, o, none⟩) L c] [.int .i64 0, .int .i64 0, .bool false, .int .i64 0, .int .i64 0, .int .i64 0, .bool false, .int .i64 0, .int .i64 0] (SS2 0).1 (.slice none 0 0)) := by
    rw [H0.out]
    exact ⟨Fd.out, Fa.out, Fr.out, rawsAt_nil _ _, FX.out⟩
  clear Fd Fa Fr FX Ft H0
  have E0 : Hid ((SS2 0).1.length = 0) := by have := (HSB.out 0).2.2; show _ = _; omega
  go_wp2_with fail
  go_loopw [9, 10] (fun v i wr => ∃ (k p : Nat) (ra : Option Addr) (rc : Nat), k ≤ m ∧ Hid (p = 8 * k) ∧ v = .slice ra (SS2 k).1.length rc ∧ i = .int .i64 (p : Int) ∧ Hid (TRel w wr w.heap.size (w.heap.size + 1) (w.heap.size + 1 + 1) [.int .i64 addr, .int .i64 id, .bool want, .int .i64 per, .int .i64 5, .int .i64 0, .bool tried, .int .i64 ((m : Int)), .int .i64 ((SS2 k).2)] [.int .i64 ast, .slice (some ⟨g, o, none⟩) L c] [.int .i64 0, .int .i64 0, .bool false, .int .i64 0, .int .i64 0, .int .i64 0, .bool false, .int .i64 0, .int .i64 0] (SS2 k).1 (.slice ra (SS2 k).1.length rc))) (fun _ i _ => L - (intOf i).toNat)
  case atStart => exact ⟨0, 0, none, 0, Nat.zero_le _, rfl, by rw [E0.out], rfl, by rw [E0.out]; exact HR0⟩
  case round =>
    obtain ⟨k, p, ra, rc, hk, hp, rfl, rfl, hR⟩ := hrel
    clear HR0
    by_cases hlt : k < m
    · have hlti : (p : Int) < (L : Int) := by have := hp.out; have := HM.out; omega
      have hm3 := HM.out
      have hp8 : (p : Int) ≤ 120 := by have := hp.out; omega
      have h8c : (p : Int) + 8 ≤ (c : Int) := by have := hp.out; omega
      have HPL : Hid (p < L) := by show p < L; omega
      have HP8 : Hid (p + 8 = 8 * (k + 1)) := by have := hp.out; show _ = _; omega
      have qa0 : wr.cell? ⟨w.heap.size + 1, 0, none⟩ = some (.int .i64 ast) := hR.out.2.1.c 0 rfl
      have qa1 : wr.cell? ⟨w.heap.size + 1, 1, none⟩ = some (.slice (some ⟨g, o, none⟩) L c) := hR.out.2.1.c 1 rfl
      go_upto_region 23 with fail

      have HCk : Hid (∀ W, Ext w W → ∀ j, j < 8 → W.cell? ⟨g, o + p + j, none⟩ = some (.int .u8 ((C k).at j))) := fun W x j hj => by rw [hp.out]; exact HC.out W x k hlt j hj
      have HSk : Hid (SS2 (k + 1) = if (C k).b7 = ckTo (C k) 7 then ((SS2 k).1 ++ [unp (C k)], (SS2 k).2) else ((SS2 k).1, if (SS2 k).2 < 1099511627776 then (SS2 k).2 + 1 else (SS2 k).2)) := HST.out k
      have HOk : Hid ((C k).ok) := HOK.out k
      obtain ⟨hb1, hb2, hlk⟩ := HSB.out k
      generalize o + p = ok at *
      generalize c - p = ck at *
      generalize C k = bb at *
      obtain ⟨y0, y1, y2, y3, y4, y5, y6, y7⟩ := bb
      have HK : Hid (∀ W, Ext w W → Calls Try.prog 42 #[.slice (some ⟨g, ok, none⟩) 8 ck] W fun e w' => e = .returned (.int .u8 (ckTo ⟨y0, y1, y2, y3, y4, y5, y6, y7⟩ 7)) ∧ w' = W) := fun W x => rcheck8 W g ok ck _ (HCk.out W x)
      have fxr : Ext w wr := hR.out.2.2.2.2
      have c7 : wr.cell? ⟨g, ok + 7, none⟩ = some (.int .u8 y7) := HCk.out wr fxr 7 (by omega)
      obtain ⟨bk, hbk⟩ : ∃ bk, bk = (SS2 k).2 := ⟨_, rfl⟩
      obtain ⟨Lk, hLk⟩ : ∃ Lk, Lk = (SS2 k).1 := ⟨_, rfl⟩
      rw [← hbk, ← hLk] at HSk hR
      rw [← hbk] at hb1 hb2
      rw [← hLk] at hlk ⊢
      have HLk : Hid (Lk = (SS2 k).1) := hLk
      clear hbk hLk qa0 qa1 h8c
      have HY : Hid (unp ⟨y0, y1, y2, y3, y4, y5, y6, y7⟩ = ⟨w16 y0 y1, w16 y2 y3, w16 y4 y5, IntKind.i8.wrap y6⟩) := rfl
      have b0 := HOk.out 0 (by omega)
      have b1 := HOk.out 1 (by omega)
      have b2 := HOk.out 2 (by omega)
      have b3 := HOk.out 3 (by omega)
      have b4 := HOk.out 4 (by omega)
      have b5 := HOk.out 5 (by omega)
      have b6 := HOk.out 6 (by omega)
      simp only [B8.at] at b0 b1 b2 b3 b4 b5 b6
      have hb7 : Hid ((⟨y0, y1, y2, y3, y4, y5, y6, y7⟩ : B8).b7 = y7) := rfl
      rw [hb7.out] at HSk
      generalize unp ⟨y0, y1, y2, y3, y4, y5, y6, y7⟩ = un at *
      generalize ckTo ⟨y0, y1, y2, y3, y4, y5, y6, y7⟩ 7 = ckv at *
      have G01 : Hid (∀ W, Calls Try.prog 43 #[.int .u8 y0, .int .u8 y1] W fun e w' => e = .returned (.int .i64 (w16 y0 y1)) ∧ w' = W) := fun W => signed_any _ _ b0.1 b0.2 b1.1 b1.2 W
      have G23 : Hid (∀ W, Calls Try.prog 43 #[.int .u8 y2, .int .u8 y3] W fun e w' => e = .returned (.int .i64 (w16 y2 y3)) ∧ w' = W) := fun W => signed_any _ _ b2.1 b2.2 b3.1 b3.2 W
      have G45 : Hid (∀ W, Calls Try.prog 43 #[.int .u8 y4, .int .u8 y5] W fun e w' => e = .returned (.int .i64 (w16 y4 y5)) ∧ w' = W) := fun W => signed_any _ _ b4.1 b4.2 b5.1 b5.2 W
      obtain ⟨t6, ht6⟩ : ∃ t6, t6 = IntKind.i8.wrap y6 := ⟨_, rfl⟩
      have E6 : Hid (IntKind.i64.wrap t6 = t6) := by
        show _ = _
        rw [IntKind.wrap_i64, ht6, wrapi8]
        split <;> omega
      rw [← ht6] at HY
      have HT6 : Hid (IntKind.i8.wrap y6 = t6) := ht6.symm
      generalize w16 y0 y1 = p0 at *
      generalize w16 y2 y3 = p1 at *
      generalize w16 y4 y5 = p2 at *
      have HCy : Hid (∀ W, Ext w W → W.cell? ⟨g, ok, none⟩ = some (.int .u8 y0) ∧ W.cell? ⟨g, ok + 1, none⟩ = some (.int .u8 y1) ∧ W.cell? ⟨g, ok + 2, none⟩ = some (.int .u8 y2) ∧ W.cell? ⟨g, ok + 3, none⟩ = some (.int .u8 y3) ∧ W.cell? ⟨g, ok + 4, none⟩ = some (.int .u8 y4) ∧ W.cell? ⟨g, ok + 5, none⟩ = some (.int .u8 y5) ∧ W.cell? ⟨g, ok + 6, none⟩ = some (.int .u8 y6)) := fun W x => ⟨HCk.out W x 0 (by omega), HCk.out W x 1 (by omega), HCk.out W x 2 (by omega), HCk.out W x 3 (by omega), HCk.out W x 4 (by omega), HCk.out W x 5 (by omega), HCk.out W x 6 (by omega)⟩
      have HLe : Hid (Lk.length ≤ 16) := by have := hm3; show _ ≤ 16; omega
      have hbb : Hid (0 ≤ bk ∧ bk ≤ 1099511627776) := ⟨hb1, hb2⟩
      clear ht6 b0 b1 b2 b3 b4 b5 b6 hb7 HOk HCk HC HOK HST hm3 hlk hb1 hb2
      by_cases hck : y7 = ckv
      · subst hck
        rw [if_pos rfl] at HSk
        go_region_held3 (fun w' => w'.cell? ⟨g, ok + 7, none⟩ = some (.int .u8 y7)) (first | (go_keep; done) | skip) (first | (go_at_call 42; refine (HK.out _ (fxr.trans (by repeat (first | with_reducible assumption | with_reducible exact Ext.refl _ | with_reducible refine Ext.drew ?_ | with_reducible refine Ext.drewN ?_ _ | with_reducible refine Ext.alloc ?_ _ | with_reducible refine Ext.set ?_ (by first | exact Nat.le_refl _ | (dsimp only; omega) | (simp; done)) _)))).mono ?_; rintro e wx ⟨rfl, hwx⟩; have hwy := hwx.symm; clear hwx; subst hwy))
        have xq : Ext wr wr.drew := (Ext.refl wr).drew
        have hR2 : Hid (TRel w wr.drew w.heap.size (w.heap.size + 1) (w.heap.size + 1 + 1) [.int .i64 addr, .int .i64 id, .bool want, .int .i64 per, .int .i64 5, .int .i64 0, .bool tried, .int .i64 ((m : Int)), .int .i64 bk] [.int .i64 ast, .slice (some ⟨g, o, none⟩) L c] [.int .i64 0, .int .i64 0, .bool false, .int .i64 0, .int .i64 0, .int .i64 0, .bool false, .int .i64 0, .int .i64 0] Lk (.slice ra Lk.length rc)) := ⟨hR.out.1.ext xq, hR.out.2.1.ext xq, hR.out.2.2.1.ext xq, drow_ext hR.out.2.2.2.1 xq, fxr.trans xq⟩
        clear hR fxr c7 xq HK
        generalize wr.drew = wq at *
        go_upto_region 26 with fail
        obtain ⟨d0, d1, d2, d3, d4, d5, d6⟩ := HCy.out wq hR2.out.2.2.2.2
        have fxq : Ext w wq := hR2.out.2.2.2.2
        have HSZ : Hid (w.heap.size + 3 ≤ wq.heap.size) := hR2.out.2.2.1.1
        have h63 : Lk.length + 1 ≤ maxLen := by have := HLe.out; unfold maxLen; omega
        have hby2 : (Lk.length + 1) * 32 ≤ 140737488355328 := by have := HLe.out; omega
        have e6 := E6.out
        have t6e := HT6.out
        go_region_held_law (fun w' => w'.cell? ⟨g, ok, none⟩ = some (.int .u8 y0) ∧ w'.cell? ⟨g, ok + 1, none⟩ = some (.int .u8 y1) ∧ w'.cell? ⟨g, ok + 2, none⟩ = some (.int .u8 y2) ∧ w'.cell? ⟨g, ok + 3, none⟩ = some (.int .u8 y3) ∧ w'.cell? ⟨g, ok + 4, none⟩ = some (.int .u8 y4) ∧ w'.cell? ⟨g, ok + 5, none⟩ = some (.int .u8 y5) ∧ w'.cell? ⟨g, ok + 6, none⟩ = some (.int .u8 y6)) (first | (go_keep; done) | (exact HCy.out _ KX.out) | skip) (first | (refine step_append_lies _ rfl (.tmp 82) (.tmp 110) 43 rfl (w.heap.size + 3) 72 i0 (.agg #[.int .i64 0, .int .i64 0, .int .i64 0, .int .i64 0]) 4 32 Try.underlying43 hi hz0 hz1 hz2 rfl (by decide) _ Lk.length (rvs Lk) rfl (by exact drow_ext hR2.out.2.2.2.1 (by repeat (first | with_reducible assumption | with_reducible exact Ext.refl _ | with_reducible refine Ext.drew ?_ | with_reducible refine Ext.drewN ?_ _ | with_reducible refine Ext.alloc ?_ _ | with_reducible refine Ext.set ?_ (by first | exact Nat.le_refl _ | (dsimp only; omega) | (simp; done)) _))) _ 1 1 [.int .i64 p0, .int .i64 p1, .int .i64 p2, .int .i64 t6] rfl rfl (by exact news4 _ ⟨p0, p1, p2, t6⟩) (by exact news4_one ⟨p0, p1, p2, t6⟩) (by decide) h63 hby2 (by have := HSZ.out; simp; omega) _ rfl ?_; intro g' cap' w9 hown' hg' hgb hgl; have R9 : Hid (TRel w w9 w.heap.size (w.heap.size + 1) (w.heap.size + 1 + 1) [.int .i64 addr, .int .i64 id, .bool want, .int .i64 per, .int .i64 5, .int .i64 0, .bool tried, .int .i64 ((m : Int)), .int .i64 bk] [.int .i64 ast, .slice (some ⟨g, o, none⟩) L c] [.int .i64 0, .int .i64 0, .bool false, .int .i64 0, .int .i64 0, .int .i64 0, .bool false, .int .i64 0, .int .i64 0] (Lk ++ [⟨p0, p1, p2, t6⟩]) (.slice (some ⟨g', 0, none⟩) (Lk.length + 1) cap')) := (by exact trel_more (hR2.out.ext (by repeat (first | with_reducible assumption | with_reducible exact Ext.refl _ | with_reducible refine Ext.drew ?_ | with_reducible refine Ext.drewN ?_ _ | with_reducible refine Ext.alloc ?_ _ | with_reducible refine Ext.set ?_ (by first | exact Nat.le_refl _ | (dsimp only; omega) | (simp; done)) _))) (by omega) (by omega) (by omega) ⟨p0, p1, p2, t6⟩ hown' hg'); have KX : Hid (Ext w w9) := R9.out.2.2.2.2; clear hown' hg' hgb hgl) | (go_at_call_of 43 (Value.int IntKind.u8 y0); refine (G01.out _).mono ?_; rintro e wx ⟨rfl, hwx⟩; have hwy := hwx.symm; clear hwx; subst hwy) | (go_at_call_of 43 (Value.int IntKind.u8 y2); refine (G23.out _).mono ?_; rintro e wx ⟨rfl, hwx⟩; have hwy := hwx.symm; clear hwx; subst hwy) | (go_at_call_of 43 (Value.int IntKind.u8 y4); refine (G45.out _).mono ?_; rintro e wx ⟨rfl, hwx⟩; have hwy := hwx.symm; clear hwx; subst hwy))
        go_wp2_with fail
        go_roundw
        case measure => exact meas_lt p L HPL.out
        case rel =>
          refine ⟨k + 1, p + 8, some ⟨g', 0, none⟩, cap', hlt, HP8, ?_, ?_, ?_⟩
          · rw [HSk.out, HY.out]
            show _ = Value.slice _ (Lk ++ [_]).length _
            rw [List.length_append]
            rfl
          · exact idx_eq p
          · rw [HSk.out, HY.out]
            show Hid (TRel w w9 _ _ _ _ _ _ (Lk ++ [_]) (.slice _ (Lk ++ [_]).length _))
            rw [List.length_append]
            exact R9
      · rw [if_neg hck] at HSk
        have hne : (ckv == y7) = false := by simp; exact fun h => hck h.symm
        clear hck
        go_region_held3 (fun w' => w'.cell? ⟨g, ok + 7, none⟩ = some (.int .u8 y7)) (first | (go_keep; done) | skip) (first | (go_at_call 42; refine (HK.out _ (fxr.trans (by repeat (first | with_reducible assumption | with_reducible exact Ext.refl _ | with_reducible refine Ext.drew ?_ | with_reducible refine Ext.drewN ?_ _ | with_reducible refine Ext.alloc ?_ _ | with_reducible refine Ext.set ?_ (by first | exact Nat.le_refl _ | (dsimp only; omega) | (simp; done)) _)))).mono ?_; rintro e wx ⟨rfl, hwx⟩; have hwy := hwx.symm; clear hwx; subst hwy))
        have hR2 : Hid (TRel w wr.drew w.heap.size (w.heap.size + 1) (w.heap.size + 1 + 1) [.int .i64 addr, .int .i64 id, .bool want, .int .i64 per, .int .i64 5, .int .i64 0, .bool tried, .int .i64 ((m : Int)), .int .i64 bk] [.int .i64 ast, .slice (some ⟨g, o, none⟩) L c] [.int .i64 0, .int .i64 0, .bool false, .int .i64 0, .int .i64 0, .int .i64 0, .bool false, .int .i64 0, .int .i64 0] Lk (.slice ra Lk.length rc)) := hR.out.ext (Ext.refl wr).drew
        clear hR fxr c7 HK HCy G01 G23 G45 E6 HT6 HY
        generalize wr.drew = wq at *
        go_upto_region 24 with fail
        have qd8 : wq.cell? ⟨w.heap.size, 8, none⟩ = some (.int .i64 bk) := hR2.out.1.c 8 rfl
        have zd8 : wq.frozen? ⟨w.heap.size, 8, none⟩ = false := hR2.out.1.f 8 rfl
        by_cases hbl : bk < 1099511627776
        · rw [if_pos hbl] at HSk
          have wbk : wrap64 (bk + 1) = bk + 1 := by have := hbb.out; unfold wrap64; omega
          have R9 : Hid (TRel w (wq.setCell ⟨w.heap.size, 8, none⟩ (.int .i64 (bk + 1))) w.heap.size (w.heap.size + 1) (w.heap.size + 1 + 1) [.int .i64 addr, .int .i64 id, .bool want, .int .i64 per, .int .i64 5, .int .i64 0, .bool tried, .int .i64 ((m : Int)), .int .i64 (bk + 1)] [.int .i64 ast, .slice (some ⟨g, o, none⟩) L c] [.int .i64 0, .int .i64 0, .bool false, .int .i64 0, .int .i64 0, .int .i64 0, .bool false, .int .i64 0, .int .i64 0] Lk (.slice ra Lk.length rc)) := trel_bad hR2.out 8 _
          go_wp2_with fail
          go_roundw
          case measure => exact meas_lt p L HPL.out
          case rel =>
            refine ⟨k + 1, p + 8, ra, rc, hlt, HP8, ?_, ?_, ?_⟩
            · rw [HSk.out]
            · exact idx_eq p
            · rw [HSk.out]
              exact R9
        · rw [if_neg hbl] at HSk
          go_wp2_with fail
          go_roundw
          case measure => exact meas_lt p L HPL.out
          case rel =>
            refine ⟨k + 1, p + 8, ra, rc, hlt, HP8, ?_, ?_, ?_⟩
            · rw [HSk.out]
            · exact idx_eq p
            · rw [HSk.out]
              exact hR2
    · have hkm : k = m := by omega
      subst hkm
      have hlti : ¬ (p : Int) < (L : Int) := by have := hp.out; have := HM.out; omega
      clear HC HOK HST HSB E0
      have qa0 : wr.cell? ⟨w.heap.size + 1, 0, none⟩ = some (.int .i64 ast) := hR.out.2.1.c 0 rfl
      have qa1 : wr.cell? ⟨w.heap.size + 1, 1, none⟩ = some (.slice (some ⟨g, o, none⟩) L c) := hR.out.2.1.c 1 rfl
      have qd4 : wr.cell? ⟨w.heap.size, 4, none⟩ = some (.int .i64 5) := hR.out.1.c 4 rfl
      have qd7 : wr.cell? ⟨w.heap.size, 7, none⟩ = some (.int .i64 (k : Int)) := hR.out.1.c 7 rfl
      have zd4 : wr.frozen? ⟨w.heap.size, 4, none⟩ = false := hR.out.1.f 4 rfl
      have zd7 : wr.frozen? ⟨w.heap.size, 7, none⟩ = false := hR.out.1.f 7 rfl
      go_upto_region 37 with fail
      have R8 : Hid (TRel w ((wr.setCell ⟨w.heap.size, 4, none⟩ (.int .i64 4)).setCell ⟨w.heap.size, 7, none⟩ (.int .i64 0)) w.heap.size (w.heap.size + 1) (w.heap.size + 1 + 1) [.int .i64 addr, .int .i64 id, .bool want, .int .i64 per, .int .i64 4, .int .i64 0, .bool tried, .int .i64 0, .int .i64 ((SS2 k).2)] [.int .i64 ast, .slice (some ⟨g, o, none⟩) L c] [.int .i64 0, .int .i64 0, .bool false, .int .i64 0, .int .i64 0, .int .i64 0, .bool false, .int .i64 0, .int .i64 0] (SS2 k).1 (.slice ra (SS2 k).1.length rc)) := trel_bad (trel_bad hR.out 4 _) 7 _
      clear hR qa0 qa1 qd4 qd7 zd4 zd7
      generalize ((wr.setCell ⟨w.heap.size, 4, none⟩ (.int .i64 4)).setCell ⟨w.heap.size, 7, none⟩ (.int .i64 0)) = wq at *
      have qd0 : wq.cell? ⟨w.heap.size, 0, none⟩ = some (.int .i64 addr) := R8.out.1.c 0 rfl
      have qd1 : wq.cell? ⟨w.heap.size, 1, none⟩ = some (.int .i64 id) := R8.out.1.c 1 rfl
      have qd2 : wq.cell? ⟨w.heap.size, 2, none⟩ = some (.bool want) := R8.out.1.c 2 rfl
      have qd3 : wq.cell? ⟨w.heap.size, 3, none⟩ = some (.int .i64 per) := R8.out.1.c 3 rfl
      have qd4 : wq.cell? ⟨w.heap.size, 4, none⟩ = some (.int .i64 4) := R8.out.1.c 4 rfl
      have qd5 : wq.cell? ⟨w.heap.size, 5, none⟩ = some (.int .i64 0) := R8.out.1.c 5 rfl
      have qd6 : wq.cell? ⟨w.heap.size, 6, none⟩ = some (.bool tried) := R8.out.1.c 6 rfl
      have qd7 : wq.cell? ⟨w.heap.size, 7, none⟩ = some (.int .i64 0) := R8.out.1.c 7 rfl
      have qd8 : wq.cell? ⟨w.heap.size, 8, none⟩ = some (.int .i64 ((SS2 k).2)) := R8.out.1.c 8 rfl
      have qr0 : wq.cell? ⟨w.heap.size + 1 + 1, 0, none⟩ = some (.int .i64 0) := R8.out.2.2.1.c 0 rfl
      have zr0 : wq.frozen? ⟨w.heap.size + 1 + 1, 0, none⟩ = false := R8.out.2.2.1.f 0 rfl
      have qr1 : wq.cell? ⟨w.heap.size + 1 + 1, 1, none⟩ = some (.int .i64 0) := R8.out.2.2.1.c 1 rfl
      have zr1 : wq.frozen? ⟨w.heap.size + 1 + 1, 1, none⟩ = false := R8.out.2.2.1.f 1 rfl
      have qr2 : wq.cell? ⟨w.heap.size + 1 + 1, 2, none⟩ = some (.bool false) := R8.out.2.2.1.c 2 rfl
      have zr2 : wq.frozen? ⟨w.heap.size + 1 + 1, 2, none⟩ = false := R8.out.2.2.1.f 2 rfl
      have qr3 : wq.cell? ⟨w.heap.size + 1 + 1, 3, none⟩ = some (.int .i64 0) := R8.out.2.2.1.c 3 rfl
      have zr3 : wq.frozen? ⟨w.heap.size + 1 + 1, 3, none⟩ = false := R8.out.2.2.1.f 3 rfl
      have qr4 : wq.cell? ⟨w.heap.size + 1 + 1, 4, none⟩ = some (.int .i64 0) := R8.out.2.2.1.c 4 rfl
      have zr4 : wq.frozen? ⟨w.heap.size + 1 + 1, 4, none⟩ = false := R8.out.2.2.1.f 4 rfl
      have qr5 : wq.cell? ⟨w.heap.size + 1 + 1, 5, none⟩ = some (.int .i64 0) := R8.out.2.2.1.c 5 rfl
      have zr5 : wq.frozen? ⟨w.heap.size + 1 + 1, 5, none⟩ = false := R8.out.2.2.1.f 5 rfl
      have qr6 : wq.cell? ⟨w.heap.size + 1 + 1, 6, none⟩ = some (.bool false) := R8.out.2.2.1.c 6 rfl
      have zr6 : wq.frozen? ⟨w.heap.size + 1 + 1, 6, none⟩ = false := R8.out.2.2.1.f 6 rfl
      have qr7 : wq.cell? ⟨w.heap.size + 1 + 1, 7, none⟩ = some (.int .i64 0) := R8.out.2.2.1.c 7 rfl
      have zr7 : wq.frozen? ⟨w.heap.size + 1 + 1, 7, none⟩ = false := R8.out.2.2.1.f 7 rfl
      have qr8 : wq.cell? ⟨w.heap.size + 1 + 1, 8, none⟩ = some (.int .i64 0) := R8.out.2.2.1.c 8 rfl
      have zr8 : wq.frozen? ⟨w.heap.size + 1 + 1, 8, none⟩ = false := R8.out.2.2.1.f 8 rfl
      have HRW : Hid (∀ W, Tn (fun k => k = w.heap.size + 1 + 1) wq W → RawsAt (w.heap.size + 3) (SS2 k).1 W (.slice ra (SS2 k).1.length rc)) := fun W t => drow_tn R8.out.2.2.2.1 t (fun k hk _ e => by omega)
      have fx : Ext w wq := R8.out.2.2.2.2
      go_wp2_with fail
      refine bodyPost_ret (v := .tuple #[.agg #[.int .i64 addr, .int .i64 id, .bool want, .int .i64 per, .int .i64 4, .int .i64 0, .bool tried, .int .i64 0, .int .i64 ((SS2 k).2)], .slice ra (SS2 k).1.length rc, .bool false]) (by simp [results, Try.results17, go_sem, qr0, qr1, qr2, qr3, qr4, qr5, qr6, qr7, qr8]) rfl ⟨_, rfl, HRW.out _ ?_, ?_⟩
      · exact (((((((((Tn.refl (fun k => k = w.heap.size + 1 + 1) wq).set (.inl rfl) _ _).set (.inl rfl) _ _).set (.inl rfl) _ _).set (.inl rfl) _ _).set (.inl rfl) _ _).set (.inl rfl) _ _).set (.inl rfl) _ _).set (.inl rfl) _ _).set (.inl rfl) _ _
      · repeat (first | with_reducible assumption | with_reducible exact Ext.refl _ | with_reducible refine Ext.drew ?_ | with_reducible refine Ext.drewN ?_ _ | with_reducible refine Ext.alloc ?_ _ | with_reducible refine Ext.set ?_ (by first | exact Nat.le_refl _ | (dsimp only; omega) | (simp; done)) _)
end
end Go.Proofs.Ytdfhhfpfnkjbnaa
