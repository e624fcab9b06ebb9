/- bus: the faults; mark. -/
import Derived.Test.YtfgljkeohoffiaaGn
import Derived.Carry
import Derived.MapKept
namespace Go.Proofs.Ytfgljkeohoffiaa
open Go.RowKit Go.Conc
abbrev Tm : TypeId := 68
def noF : Flt := ⟨0, 0, 0, 0⟩
/-- the entries of faults -/
def Ents : List MapEntry → List Flt → Prop
  | [], [] => True
  | e :: l, f :: F => e.key = .int .i64 f.at_ ∧ e.val = fv f ∧ Ents l F
  | _, _ => False
/-- the first fault at a number -/
def flt : List Flt → Int → Option Flt
  | [], _ => none
  | f :: F, k => if k = f.at_ then some f else flt F k
theorem ents_push : ∀ {l : List MapEntry} {F : List Flt} (_ : Ents l F) (f : Flt) (b : Nat), Ents (l ++ [⟨.int .i64 f.at_, fv f, b⟩]) (F ++ [f])
  | [], [], _, _, _ => ⟨rfl, rfl, trivial⟩
  | _ :: _, _ :: _, h, f, b => ⟨h.1, h.2.1, ents_push h.2.2 f b⟩
  | [], _ :: _, h, _, _ => h.elim
  | _ :: _, [], h, _, _ => h.elim
theorem ents_find : ∀ {l : List MapEntry} {F : List Flt} (_ : Ents l F) (k : Int) (i : Nat), ∃ r, Instr.findNow (.int .i64) (.int .i64 k) l i = some r ∧ r.map (fun p => p.2) = (flt F k).map fv
  | [], [], _, _, _ => ⟨none, rfl, rfl⟩
  | e :: l, g :: F, h, k, i => by
    obtain ⟨h1, h2, h3⟩ := h
    unfold Instr.findNow flt
    rw [h1]
    by_cases hk : k = g.at_
    · refine ⟨some (i, e.val), by simp [Instr.sameNow, hk], ?_⟩
      rw [if_pos hk, h2]; rfl
    · obtain ⟨r, q1, q2⟩ := ents_find h3 k (i + 1)
      have hb : (k == g.at_) = false := by simpa using hk
      refine ⟨r, by simp [Instr.sameNow, hb, q1], ?_⟩
      rw [if_neg hk]; exact q2
  | [], _ :: _, h, _, _ => h.elim
  | _ :: _, [], h, _, _ => h.elim
/-- The map at m holds F. -/
def MapOk (w : World) (m : Nat) (F : List Flt) : Prop := ∃ es clock, w.heap[m]? = some (.map es clock) ∧ Ents es.toList F
theorem MapOk.lt {w : World} {m : Nat} {F : List Flt} (h : MapOk w m F) : m < w.heap.size := by
  obtain ⟨es, c, h1, _⟩ := h
  exact (Array.getElem?_eq_some_iff.1 h1).1
theorem MapOk.tn {own : Nat → Prop} {w w' : World} {m : Nat} {F : List Flt} (h : MapOk w m F) (t : Tn own w w') (ho : ¬ own m) : MapOk w' m F := by
  have hl := h.lt
  obtain ⟨es, c, h1, h2⟩ := h
  exact ⟨es, c, (t.2 m hl ho).trans h1, h2⟩
theorem MapOk.ext {w w' : World} {m : Nat} {F : List Flt} (h : MapOk w m F) (x : Ext w w') : MapOk w' m F := h.tn (own := fun _ => False) (Tn.of_ext x) (fun k => k)
theorem check_int (w : World) (e : Bool) (k : Int) : (Instr.checkKey e 10000 3 (.int .i64 k)).run Try.prog w = .ok () w :=
  MapKept.run_checkKey Try.underlying3 (by simp [MapKept.IsKey]) e 9999
theorem zero_flt (w : World) : (zeroValue 76).run Try.prog w = .ok (fv noF) w := by
  have : (Try.prog.info? 76).map (fun i => i.zero) = some (some (fv noF)) := by kernel_rfl
  cases hi : Try.prog.info? 76 with
  | none => rw [hi] at this; cases this
  | some i =>
    rw [hi] at this
    simp only [Option.map_some, Option.some.injEq] at this
    simp [zeroValue, typeInfo, hi, this]
theorem look_map (w : World) {m : Nat} {F : List Flt} (h : MapOk w m F) (k : Int) : (Instr.lookup Tm (.map (some m)) (.int .i64 k) false).run Try.prog w = .ok (fv ((flt F k).getD noF)) w := by
  obtain ⟨es, c, h1, h2⟩ := h
  obtain ⟨r, q1, q2⟩ := ents_find h2 k 0
  have hk : (Instr.findKey 3 (.int .i64 k) es.toList).run Try.prog w = .ok r w := by
    simp [Instr.findKey, run_underlying Try.underlying3, q1, Result.andThen]
  cases hf : flt F k with
  | none =>
    rw [hf] at q2
    have : r = none := by cases r with
      | none => rfl
      | some p => simp at q2
    subst this
    simp [Instr.lookup, run_underlying Try.underlying68, MapKept.run_getObj_map h1, check_int, hk, Result.andThen, noF]
  | some f =>
    rw [hf] at q2
    obtain ⟨i, rfl⟩ : ∃ i, r = some (i, fv f) := by cases r with
      | none => simp at q2
      | some p => obtain ⟨i, v⟩ := p; simp at q2; exact ⟨i, by rw [q2]⟩
    simp [Instr.lookup, run_underlying Try.underlying68, MapKept.run_getObj_map h1, check_int, hk, Result.andThen]
theorem look_ok (w : World) {m : Nat} {F : List Flt} (h : MapOk w m F) (k : Int) : (Instr.lookup Tm (.map (some m)) (.int .i64 k) true).run Try.prog w = .ok (.tuple #[fv ((flt F k).getD noF), .bool (flt F k).isSome]) w := by
  obtain ⟨es, c, h1, h2⟩ := h
  obtain ⟨r, q1, q2⟩ := ents_find h2 k 0
  have hk : (Instr.findKey 3 (.int .i64 k) es.toList).run Try.prog w = .ok r w := by
    simp [Instr.findKey, run_underlying Try.underlying3, q1, Result.andThen]
  cases hf : flt F k with
  | none =>
    rw [hf] at q2
    have : r = none := by cases r with
      | none => rfl
      | some p => simp at q2
    subst this
    simp [Instr.lookup, run_underlying Try.underlying68, MapKept.run_getObj_map h1, check_int, hk, Result.andThen, noF]
  | some f =>
    rw [hf] at q2
    obtain ⟨i, rfl⟩ : ∃ i, r = some (i, fv f) := by cases r with
      | none => simp at q2
      | some p => obtain ⟨i, v⟩ := p; simp at q2; exact ⟨i, by rw [q2]⟩
    simp [Instr.lookup, run_underlying Try.underlying68, MapKept.run_getObj_map h1, check_int, hk, Result.andThen]
/-- a block written anew -/
def putB (w : World) (m : Nat) (o : Obj) : World := { w with heap := w.heap.setIfInBounds m o }
theorem putB_at {w : World} {m : Nat} (h : m < w.heap.size) (o : Obj) : (putB w m o).heap[m]? = some o := by
  simp [putB, h]
theorem Tn.putB {own : Nat → Prop} {a w : World} (h : Tn own a w) {m : Nat} (hm : own m ∨ a.heap.size ≤ m) (o : Obj) : Tn own a (putB w m o) := by
  refine ⟨⟨h.1.os, h.1.tape, h.1.output, by simpa [Go.Proofs.Ytfgljkeohoffiaa.putB] using h.1.size, fun k hk => by omega⟩, fun k hk hn => ?_⟩
  have e : k ≠ m := fun e => by subst e; rcases hm with q | q; exact hn q; omega
  rw [show (Go.Proofs.Ytfgljkeohoffiaa.putB w m o).heap[k]? = w.heap[k]? by simp [Go.Proofs.Ytfgljkeohoffiaa.putB, Array.getElem?_setIfInBounds_ne (Ne.symm e)]]
  exact h.2 k hk hn
theorem put_map (w : World) {m : Nat} {F : List Flt} (h : MapOk w m F) (f : Flt) (hf : flt F f.at_ = none) : ∃ o, (Instr.mapUpdate Tm (.map (some m)) (.int .i64 f.at_) (fv f)).run Try.prog w = .ok () (putB w m o) ∧ MapOk (putB w m o) m (F ++ [f]) := by
  have hl := h.lt
  obtain ⟨es, c, h1, h2⟩ := h
  obtain ⟨r, q1, q2⟩ := ents_find h2 f.at_ 0
  rw [hf] at q2
  have : r = none := by cases r with
    | none => rfl
    | some p => simp at q2
  subst this
  have hk : (Instr.findKey 3 (.int .i64 f.at_) es.toList).run Try.prog w = .ok none w := by
    simp [Instr.findKey, run_underlying Try.underlying3, q1, Result.andThen]
  refine ⟨.map (es.push ⟨.int .i64 f.at_, fv f, c⟩) (c + 1), ?_, _, _, putB_at hl _, ?_⟩
  · simp [Instr.mapUpdate, run_underlying Try.underlying68, MapKept.run_getObj_map h1, check_int, hk, Result.andThen, MapKept.run_setObj_map _ h1, putB]
  · rw [Array.toList_push]; exact ents_push h2 f c
def gf (F : List Flt) (i : Nat) : Flt := F.getD i noF
/-- the faults that count, of the first k -/
def fsts (F : List Flt) : Nat → List Flt
  | 0 => []
  | k + 1 => if flt (fsts F k) (gf F k).at_ = none then fsts F k ++ [gf F k] else fsts F k
/-- four cells that hold a fault -/
def F4 (w : World) (b o : Nat) (f : Flt) : Prop :=
  w.cell? ⟨b, o, none⟩ = some (.int .i64 f.at_) ∧ w.cell? ⟨b, o + 1, none⟩ = some (.int .i64 f.kind) ∧ w.cell? ⟨b, o + 2, none⟩ = some (.int .i64 f.idx) ∧ w.cell? ⟨b, o + 3, none⟩ = some (.int .u8 f.xor)
theorem F4.ext {w w' : World} {b o : Nat} {f : Flt} (h : F4 w b o f) (x : Ext w w') : F4 w' b o f := ⟨x.keepc h.1, x.keepc h.2.1, x.keepc h.2.2.1, x.keepc h.2.2.2⟩
theorem F4.tn {own : Nat → Prop} {w w' : World} {b o : Nat} {f : Flt} (h : F4 w b o f) (x : Tn own w w') (hb : ¬ own b) : F4 w' b o f := ⟨x.keepc hb h.1, x.keepc hb h.2.1, x.keepc hb h.2.2.1, x.keepc hb h.2.2.2⟩
theorem f4_new {w : World} {f : Flt} {k : Nat} (h : w.heap.size = k) : F4 (w.alloc (fc f)) k 0 f := by
  subst h
  refine ⟨?_, ?_, ?_, ?_⟩ <;> simp [go_sem]
/-- faults, one behind the other -/
def FRs (w : World) (a : Option Addr) (F : List Flt) : Prop := ∀ i, i < F.length → ∃ b off, a = some ⟨b, off, none⟩ ∧ F4 w b (off + i * 4) (gf F i)
theorem FRs.ext {w w' : World} {a : Option Addr} {F : List Flt} (h : FRs w a F) (x : Ext w w') : FRs w' a F := fun i hi => by
  obtain ⟨b, off, e, h1⟩ := h i hi
  exact ⟨b, off, e, h1.ext x⟩
/-- the bus with its map -/
structure MK (w0 wr : World) (b : Nat) (v : Value) (X : Nat → DA) (L : Nat → Nat) (n : Nat) (D : Nat → Dv) (m : Nat) (G : List Flt) : Prop where
  d : IsDevs wr b v X L n D
  x : Ext w0 wr
  nw : ∀ j, FD b v X L n j → w0.heap.size ≤ j
  m0 : w0.heap.size ≤ m
  mf : ¬ FD b v X L n m
  c1 : wr.cell? ⟨b, 1, none⟩ = some (.map (some m))
  c2 : wr.cell? ⟨b, 2, none⟩ = some (.int .i64 0)
  mp : MapOk wr m G
section
variable {w0 wr w' : World} {b : Nat} {v : Value} {X : Nat → DA} {L : Nat → Nat} {n : Nat} {D : Nat → Dv} {m : Nat} {G : List Flt}
theorem MK.ext (h : MK w0 wr b v X L n D m G) (x : Ext wr w') : MK w0 w' b v X L n D m G := ⟨h.d.ext x, h.x.trans x, h.nw, h.m0, h.mf, x.keepc h.c1, x.keepc h.c2, h.mp.ext x⟩
theorem MK.put (h : MK w0 wr b v X L n D m G) {o : Obj} {G' : List Flt} (hm : MapOk (putB wr m o) m G') : MK w0 (putB wr m o) b v X L n D m G' := by
  have t : Tn (fun j => j = m) wr (putB wr m o) := (Tn.refl (fun j => j = m) wr).putB (.inl rfl) o
  have hb : ¬ b = m := fun e => h.mf (.inl e.symm)
  exact ⟨h.d.tn t (fun k o e => h.mf (e ▸ o)), t.below h.x (fun i e => by rw [e]; exact h.m0), h.nw, h.m0, h.mf, t.keepc hb h.c1, t.keepc hb h.c2, hm⟩
/-- a map is made -/
theorem JI.mapped (h : JI w0 wr b v X L n D) : MK w0 ((wr.setCell ⟨b, 1, none⟩ (.map (some wr.heap.size))).alloc (.map #[] 0)) b v X L n D wr.heap.size [] := by
  have hb : b < wr.heap.size := h.d.lt b (.inl rfl)
  have hs := h.x.size
  have t : Tn (fun j => j = b) wr (wr.setCell ⟨b, 1, none⟩ (.map (some wr.heap.size))) := (Tn.refl (fun j => j = b) _).set (.inl rfl) _ _
  have k1 := h.c1
  have k2 := h.c2
  have hd := h.d
  have c0 := hd.c0
  have x1 : Ext (wr.setCell ⟨b, 1, none⟩ (.map (some wr.heap.size))) ((wr.setCell ⟨b, 1, none⟩ (.map (some wr.heap.size))).alloc (.map #[] 0)) := (Ext.refl _).alloc _
  have hI : IsDevs (wr.setCell ⟨b, 1, none⟩ (.map (some wr.heap.size))) b v X L n D := ⟨by simp [go_sem, c0], fun j => by rw [World.frozen?_setCell]; exact hd.f j, row_tn hd.row t (fun k _ e q => hd.vb (by rw [← q]; exact e)), fun i hi => (hd.dev i hi).tn t (fun k o e => hd.ab i hi (by rw [← hd.len i hi]; exact e ▸ o)), hd.len, hd.ap, hd.ab, hd.av, hd.vb, hd.n8⟩
  have k1' : (wr.setCell ⟨b, 1, none⟩ (.map (some wr.heap.size))).cell? ⟨b, 1, none⟩ = some (.map (some wr.heap.size)) := by simp [go_sem, k1]
  have k2' : (wr.setCell ⟨b, 1, none⟩ (.map (some wr.heap.size))).cell? ⟨b, 2, none⟩ = some (.int .i64 0) := by simp [go_sem, k2]
  refine ⟨hI.ext x1, (h.x.new (h.n b (.inl rfl)) _ _).trans x1, h.n, hs, fun o => by have := h.d.lt _ o; omega, x1.keepc k1', x1.keepc k2', #[], 0, ?_, trivial⟩
  have e := heap_alloc_new (wr.setCell ⟨b, 1, none⟩ (.map (some wr.heap.size))) (.map #[] 0)
  rw [size_setCell'] at e
  exact e
end
def okFs (F : List Flt) : Bool := decide (F.length ≤ 4096) && F.all okF
theorem all_gf (F : List Flt) : F.all okF = true ↔ ∀ j, j < F.length → okF (gf F j) = true := by
  rw [List.all_eq_true]
  constructor
  · intro h j hj
    have : gf F j = F[j] := by simp [gf, hj]
    rw [this]; exact h _ (List.getElem_mem hj)
  · intro h r hr
    obtain ⟨j, hj, rfl⟩ := List.getElem_of_mem hr
    have := h j hj
    simpa [gf, hj] using this
theorem all_gf_not (F : List Flt) {j : Nat} (hj : j < F.length) (h : okF (gf F j) = false) : F.all okF = false := by
  cases e : F.all okF
  · rfl
  · have := (all_gf F).1 e j hj
    rw [h] at this; cases this
theorem mkmap (n : Int) (w : World) : (Instr.makeMap Tm (some (.int .i64 n))).run Try.prog w = .ok (.map (some w.heap.size)) (w.alloc (.map #[] 0)) := by
  simp [Instr.makeMap, run_underlying Try.underlying68, Result.andThen, asInt, asIntOf]
set_option maxRecDepth 20000 in
set_option maxHeartbeats 8000000 in
theorem mark_any (w0 w : World) {b : Nat} {v : Value} {X : Nat → DA} {L : Nat → Nat} {n : Nat} {D : Nat → Dv} (a : Option Addr) (F : List Flt) (c : Nat) (hF : FRs w0 a F) (hl : F.length ≤ maxLen) (hI : JI w0 w b v X L n D) :
    Calls Try.prog 25 #[.pointer (some ⟨b, 0, none⟩), .slice a F.length c] w fun e w' => e = .returned (.bool (okFs F)) ∧ Ext w0 w' ∧ (okFs F = true → ∃ m, MK w0 w' b v X L n D m (fsts F F.length)) := by
  unfold maxLen at hl
  have HI : Hid (JI w0 w b v X L n D) := hI
  have HF : Hid (FRs w0 a F) := hF
  clear hI hF
  by_cases h8 : F.length ≤ 4096
  · have h8i : ¬ (4096 : Int) < (F.length : Int) := by omega
    have h8b : decide ((4096 : Int) < (F.length : Int)) = false := by simpa using h8i
    have ex : Hid (okFs F = F.all okF) := by show _ = _; unfold okFs; simp [h8]
    have hmk := mkmap (F.length : Int)
    have H0 : Hid (MK w0 ((w.setCell ⟨b, 1, none⟩ (.map (some w.heap.size))).alloc (.map #[] 0)) b v X L n D w.heap.size []) := HI.out.mapped
    have hb : b < w.heap.size := HI.out.d.lt b (.inl rfl)
    have nb : b ≠ w.heap.size := by omega
    have c1 := HI.out.c1
    have f1 := HI.out.d.f 1
    go_enter Try.func25, Try.ntmps25
    go_wp2_with fail
    generalize (w.setCell ⟨b, 1, none⟩ (.map (some w.heap.size))).alloc (.map #[] 0) = w1 at *
    generalize w.heap.size = m at *
    clear hmk c1 f1 HI
    go_loopw [6, 7, 8, 20] (fun _ _ _ i wr => ∃ (k : Nat), k ≤ F.length ∧ i = .int .i64 k ∧ Hid ((∀ j, j < k → okF (gf F j) = true) ∧ MK w0 wr b v X L n D m (fsts F k))) (fun _ _ _ i _ => F.length - (intOf i).toNat)
    case atStart => exact ⟨0, Nat.zero_le _, rfl, fun j hj => absurd hj (Nat.not_lt_zero _), H0.out⟩
    case round =>
      obtain ⟨k, hk, rfl, hR⟩ := hrel
      by_cases hlt : k < F.length
      · have hlti : (k : Int) < (F.length : Int) := by omega
        obtain ⟨b1, o1, rfl, k0, k1, k2, k3⟩ := HF.out.ext hR.out.2.x k hlt
        have x1 : Ext wr (wr.alloc (fc (gf F k))) := (Ext.refl wr).alloc _
        have HW := isfault_any (gf F k) (wr.alloc (fc (gf F k)))
        have hv1 : Hid (F4 (wr.alloc (fc (gf F k))) wr.heap.size 0 (gf F k)) := f4_new rfl
        have HK : Hid (MK w0 (wr.alloc (fc (gf F k))) b v X L n D m (fsts F k)) := hR.out.2.ext x1
        cases hok : okF (gf F k) <;> rw [hok] at HW
        · have e2 : Hid (okFs F = false) := by show _ = _; rw [ex.out]; exact all_gf_not F hlt hok
          clear hok hR
          generalize gf F k = f at *
          obtain ⟨f0, f1, f2, f3⟩ := f
          simp only at *
          go_wp2_with (go_at_call 45; refine HW.mono ?_; rintro e w2 ⟨rfl, x2⟩)
          go_ret
          rw [e2.out]
          exact ⟨rfl, HK.out.x.trans x2, fun h => by cases h⟩
        · have HO : Hid (∀ j, j < k + 1 → okF (gf F j) = true) := fun j hj => by
            by_cases ej : j = k
            · rw [ej]; exact hok
            · exact hR.out.1 j (by omega)
          have HS : Hid (fsts F (k + 1) = if flt (fsts F k) (gf F k).at_ = none then fsts F k ++ [gf F k] else fsts F k) := rfl
          clear hok hR
          generalize gf F k = f at *
          generalize hG1 : fsts F (k + 1) = G1 at *
          have HG1 : Hid (fsts F (k + 1) = G1) := hG1
          clear hG1
          generalize fsts F k = G at *
          obtain ⟨f0, f1, f2, f3⟩ := f
          simp only at *
          go_upto_region 9 with (go_at_call 45; refine HW.mono ?_; rintro e w2 ⟨rfl, x2⟩)
          have H2 := HK.out.ext x2
          obtain ⟨y0, y1, y2, y3⟩ := hv1.out.ext x2
          dsimp only at y0 y1 y2 y3
          have c1 := H2.c1
          have hlk1 := look_ok w2.drew (h := H2.mp.ext (drewN_ext 1)) f0
          have hlk2 := look_ok (w2.alloc (fc noF)).drew (h := (H2.mp.ext ((Ext.refl w2).alloc (fc noF))).ext (drewN_ext 1)) f0
          have lt2 : wr.heap.size < w2.heap.size := World.block_lt_of_cell? w2 ⟨wr.heap.size, 0, none⟩ y0
          have ltb : b < w2.heap.size := H2.d.lt b (.inl rfl)
          have n1 := Nat.ne_of_lt lt2
          have n2 := Nat.ne_of_gt lt2
          have n3 := Nat.ne_of_lt ltb
          have n4 := Nat.ne_of_gt ltb
          cases hf : flt G f0 with
          | none =>
            rw [hf] at hlk1 hlk2
            simp only [Option.getD_none, Option.isSome_none, fc, fv, noF] at hlk1 hlk2
            have x3 : Ext w2 (w2.alloc (.cells #[.int .i64 0, .int .i64 0, .int .i64 0, .int .u8 0] 76)).drew := ((Ext.refl w2).alloc _).drew
            have H3 : Hid (MK w0 (w2.alloc (.cells #[.int .i64 0, .int .i64 0, .int .i64 0, .int .u8 0] 76)).drew b v X L n D m G) := H2.ext x3
            have V3 : Hid (F4 (w2.alloc (.cells #[.int .i64 0, .int .i64 0, .int .i64 0, .int .u8 0] 76)).drew wr.heap.size 0 ⟨f0, f1, f2, f3⟩) := (hv1.out.ext x2).ext x3
            have HE : Hid (G1 = G ++ [⟨f0, f1, f2, f3⟩]) := by show _ = _; rw [HS.out, if_pos hf]
            have HFF : Hid (flt G f0 = none) := hf
            clear H2 x3 HS hf
            go_region
            all_goals
              clear hlk1 hlk2 y0 y1 y2 y3 c1 lt2 ltb n1 n2 n3 n4
              generalize (w2.alloc (.cells #[.int .i64 0, .int .i64 0, .int .i64 0, .int .u8 0] 76)).drew = w3 at *
              obtain ⟨y0, y1, y2, y3⟩ := V3.out
              dsimp only at y0 y1 y2 y3
              have c1 := H3.out.c1
              obtain ⟨o, hup, hmo⟩ := put_map w3.drew (H3.out.mp.ext (drewN_ext 1)) ⟨f0, f1, f2, f3⟩ HFF.out
              have R9 : Hid (MK w0 (putB w3.drew m o) b v X L n D m G1) := by show MK _ _ _ _ _ _ _ _ _ _; rw [HE.out]; exact (H3.out.ext (drewN_ext 1)).put hmo
              dsimp only [fv] at hup
              clear hmo
              go_upto_region 11 with fail
              go_region
              go_wp2_with fail
              go_roundw
              case measure => simp [intOf]; omega
              case rel => exact ⟨k + 1, by omega, by simp, HO.out, by rw [HG1.out]; exact R9.out⟩
          | some g =>
            rw [hf] at hlk1 hlk2
            simp only [Option.getD_some, Option.isSome_some, fc, fv, noF] at hlk1 hlk2
            obtain ⟨g0, g1, g2, g3⟩ := g
            dsimp only at hlk1 hlk2
            have HE : Hid (G1 = G) := by show _ = _; rw [HS.out, if_neg (by rw [hf]; simp)]
            have R9 : Hid (∀ w9, Ext w2 w9 → MK w0 w9 b v X L n D m G1) := fun w9 x9 => by rw [HE.out]; exact H2.ext x9
            clear H2 HS hf
            go_region
            all_goals
              go_wp2_with fail
              go_roundw
              case measure => simp [intOf]; omega
              case rel => exact ⟨k + 1, by omega, by simp, HO.out, by rw [HG1.out]; exact R9.out _ (((Ext.refl w2).alloc _).drew)⟩
      · have hlti : ¬ (k : Int) < (F.length : Int) := by omega
        have hkl : k = F.length := by omega
        have HF9 : Hid (okFs F = true ∧ MK w0 wr b v X L n D m (fsts F F.length)) := by
          refine ⟨?_, ?_⟩
          · rw [ex.out]; exact (all_gf F).2 (fun j hj => hR.out.1 j (by omega))
          · rw [← hkl]; exact hR.out.2
        clear hR hkl H0
        go_wp2_with fail
        go_ret
        rw [HF9.out.1]
        exact ⟨rfl, HF9.out.2.x, fun _ => ⟨m, HF9.out.2⟩⟩
  · have h8i : (4096 : Int) < (F.length : Int) := by omega
    have e : Hid (okFs F = false) := by show _ = _; unfold okFs; simp [h8]
    go_enter Try.func25, Try.ntmps25
    go_wp2_with fail
    go_ret
    rw [e.out]
    exact ⟨rfl, HI.out.x, fun h => by cases h⟩
end Go.Proofs.Ytfgljkeohoffiaa
