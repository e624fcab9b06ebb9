/- How a script that came in is read. -/
import Derived.Test.YtfgljkeohoffiaaRows
import Derived.Test.YtfgljkeohoffiaaGv
import Derived.ProofKit
import Derived.OpenShut
import Derived.ChangeOld
import Derived.Deep.Slices
namespace Go.Proofs.Ytfgljkeohoffiaa
open Go.ChangeShapes Go.WideShapes Go.ChangeAt Go.RowKit Go.Deep

theorem Try.own : ownKnob Try.prog.godebug = none := by kernel_rfl
theorem Try.laidOut : laidOutB Try.prog = true := by kernel_rfl
theorem Try.cellsAct : Try.prog.cellsOf 46 = 6 := by kernel_rfl
theorem Try.cellsTx : Try.prog.cellsOf 44 = 4 := by kernel_rfl
theorem Try.cellsRaw : Try.prog.cellsOf 37 = 4 := by kernel_rfl
theorem Try.cellsFault : Try.prog.cellsOf 76 = 4 := by kernel_rfl
theorem Try.cellsModel : Try.prog.cellsOf 35 = 3 := by kernel_rfl
theorem Try.cellsScript : Try.prog.cellsOf 26 = 3 := by kernel_rfl
theorem Try.cellsInt : Try.prog.cellsOf 3 = 1 := by kernel_rfl
theorem Try.cellsByte : Try.prog.cellsOf 5 = 1 := by kernel_rfl
theorem Try.cellsBytes : Try.prog.cellsOf 42 = 1 := by kernel_rfl
theorem Try.cellsRaws : Try.prog.cellsOf 33 = 1 := by kernel_rfl
theorem Try.cellsModels : Try.prog.cellsOf 22 = 1 := by kernel_rfl
theorem Try.cellsFaults : Try.prog.cellsOf 23 = 1 := by kernel_rfl
theorem Try.cellsActs : Try.prog.cellsOf 24 = 1 := by kernel_rfl
theorem i64_bounds {n : Int} (h : (Lit.int .i64 n).wf = true) : -9223372036854775808 ≤ n ∧ n ≤ 9223372036854775807 := by
  have := bounds_i64 h
  omega
section
variable {H : Type} {enc : TypeId × Value → H} {W : World}
theorem part_one {cs : List Value} {o : Nat} {v : Value} (h : List.take 1 (List.drop o cs) = [v]) : cs[o]? = some v := by
  have := congrArg (fun l => l[0]?) h
  simp only [List.getElem?_cons_zero] at this
  rw [List.getElem?_take_of_lt (by omega), List.getElem?_drop] at this
  simpa using this
theorem part_of {cs : List Value} {o : Nat} (h : o < cs.length) : ∃ v, cs[o]? = some v ∧ List.take 1 (List.drop o cs) = [v] := by
  refine ⟨cs[o], by simp [h], ?_⟩
  rw [List.drop_eq_getElem_cons h, List.take_succ_cons, List.take_zero]
/-- an integer among a struct's cells -/
theorem open_int {m : Nat} {cs : List Value} {o : Nat} {y : Option (DataW H × List MemPlace)} (h : DataW.trod enc Try.prog W 0 (fun _ => true) true m 3 (List.take (Try.prog.cellsOf 3) (List.drop o cs)) = y) (hy : y.isSome = true) :
    ∃ D, cs[o]? = some (.int .i64 D) ∧ -9223372036854775808 ≤ D ∧ D ≤ 9223372036854775807 := by
  obtain ⟨x, rfl⟩ := Option.isSome_iff_exists.1 hy
  rw [Try.cellsInt] at h
  obtain ⟨D, hD, _, wD⟩ := DataW.trod_int Try.underlying3 h
  exact ⟨D, part_one hD, i64_bounds wD⟩
/-- a row of things, each read by p -/
theorem open_rows {α : Type} [Inhabited α] {T e : TypeId} {cells : Nat} {p : List Value → α → Prop} (hT : Try.prog.underlying T = some (.slice e)) (hc : Try.prog.cellsOf e = cells) (h1 : 0 < cells)
    (hp : ∀ (fuel : Nat) (cs : List Value) (x : DataW H × List MemPlace), DataW.trod enc Try.prog W 0 (fun _ => true) true fuel e cs = some x → cs.length = cells → ∃ a, p cs a)
    {fuel : Nat} {v : Value} {x : DataW H × List MemPlace} (h : DataW.trod enc Try.prog W 0 (fun _ => true) true fuel T [v] = some x) :
    ∃ (a : Option Addr) (l : List α) (c : Nat), v = .slice a l.length c ∧ l.length ≤ maxLen ∧ l.length ≤ c ∧ ∀ i, i < l.length → ∃ b off cs, a = some ⟨b, off, none⟩ ∧ p cs (l.getD i default) ∧ cs.length = cells ∧ ∀ j, j < cells → W.cell? ⟨b, off + i * cells + j, none⟩ = cs[j]? := by
  rcases open_slice hT h with ⟨hcs, _⟩ | ⟨x, len, c, m, n, D, Pl, hcs, _, hl, hm, hmm, _, hel⟩
  · simp only [List.cons.injEq, and_true] at hcs
    exact ⟨none, [], 0, hcs, Nat.zero_le _, Nat.zero_le _, fun i hi => by simp at hi⟩
  · simp only [List.cons.injEq, and_true] at hcs
    simp only [if_true] at hmm
    obtain ⟨b, off, spot⟩ := x
    rw [hc] at hel
    have hcell : ∀ i, ∃ y : List Value × α, i < len → p y.1 y.2 ∧ y.1.length = cells ∧ ∀ j, j < cells → W.cell? (((⟨b, off, spot⟩ : Addr).add (i * cells)).add j) = y.1[j]? := by
      intro i
      by_cases hi : i < len
      · obtain ⟨cs', q1, q2⟩ := hel i (by omega)
        obtain ⟨_, q3, q4⟩ := World.cells?_some q1
        obtain ⟨a, ha⟩ := hp _ _ _ q2 q3
        exact ⟨(cs', a), fun _ => ⟨ha, q3, fun j hj => q4 j hj⟩⟩
      · exact ⟨([], default), fun h => absurd h hi⟩
    obtain ⟨y, hy⟩ := Classical.axiomOfChoice hcell
    by_cases h0 : len = 0
    · subst h0
      exact ⟨_, [], c, hcs, Nat.zero_le _, Nat.zero_le _, fun i hi => by simp at hi⟩
    have hspot : spot = none := by
      obtain ⟨_, hD1, hD⟩ := hy 0 (by omega)
      have h2 := hD 0 h1
      rw [List.getElem?_eq_getElem (by omega)] at h2
      simpa [Addr.add] using World.cell?_spot h2
    subst hspot
    refine ⟨_, (List.range len).map (fun i => (y i).2), c, by simpa using hcs, by simp; omega, by simp; omega, ?_⟩
    intro i hi
    have hi' : i < len := by simpa using hi
    obtain ⟨q1, q2, q3⟩ := hy i hi'
    refine ⟨b, off, (y i).1, rfl, ?_, q2, fun j hj => ?_⟩
    · have : ((List.range len).map (fun i => (y i).2)).getD i default = (y i).2 := by simp [hi']
      rw [this]; exact q1
    · have := q3 j hj
      simpa only [add_plain] using this
def rawP (cs : List Value) (r : Raw) : Prop := cs[0]? = some (.int .i64 r.x) ∧ cs[1]? = some (.int .i64 r.y) ∧ cs[2]? = some (.int .i64 r.z) ∧ cs[3]? = some (.int .i64 r.t)
theorem open_raw (fuel : Nat) (cs : List Value) (x : DataW H × List MemPlace) (h : DataW.trod enc Try.prog W 0 (fun _ => true) true fuel 37 cs = some x) : ∃ r, rawP cs r := by
  obtain ⟨xs, m, rfl, rfl, hlen, hxs, hf⟩ := DataW.trod_struct Try.underlying37 h
  have hx : xs.length = 4 := hxs
  obtain ⟨a, ha, _⟩ := open_int (o := 0) (hf 0 _ rfl) (by simp [hx])
  obtain ⟨b, hb, _⟩ := open_int (o := 1) (hf 1 _ rfl) (by simp [hx])
  obtain ⟨c, hc, _⟩ := open_int (o := 2) (hf 2 _ rfl) (by simp [hx])
  obtain ⟨d, hd, _⟩ := open_int (o := 3) (hf 3 _ rfl) (by simp [hx])
  exact ⟨⟨a, b, c, d⟩, ha, hb, hc, hd⟩
theorem open_raws {fuel : Nat} {v : Value} {x : DataW H × List MemPlace} (h : DataW.trod enc Try.prog W 0 (fun _ => true) true fuel 33 [v] = some x) :
    ∃ (a : Option Addr) (l : List Raw) (c : Nat), v = .slice a l.length c ∧ l.length ≤ maxLen ∧ LR W a l := by
  obtain ⟨a, l, c, h1, h2, _, h3⟩ := @open_rows H enc W Raw ⟨nought⟩ _ _ 4 rawP Try.underlying33 Try.cellsRaw (by omega) (fun f cs x h _ => open_raw f cs x h) _ _ _ h
  refine ⟨a, l, c, h1, h2, fun i hi => ?_⟩
  obtain ⟨b, off, cs, e, ⟨p0, p1, p2, p3⟩, _, hc⟩ := h3 i hi
  exact ⟨b, off, e, (hc 0 (by omega)).trans p0, (hc 1 (by omega)).trans p1, (hc 2 (by omega)).trans p2, (hc 3 (by omega)).trans p3⟩
def byteP (cs : List Value) (n : Nat) : Prop := cs[0]? = some (.int .u8 n) ∧ n ≤ 255
theorem open_bytes {fuel : Nat} {v : Value} {x : DataW H × List MemPlace} (h : DataW.trod enc Try.prog W 0 (fun _ => true) true fuel 42 [v] = some x) :
    ∃ (a : Option Addr) (l : List Nat) (c : Nat), v = .slice a l.length c ∧ l.length ≤ maxLen ∧ BR W a l ∧ (0 < l.length → ∀ k off, a = some ⟨k, off, none⟩ → k < W.heap.size) := by
  obtain ⟨a, l, c, h1, h2, _, h3⟩ := @open_rows H enc W Nat ⟨0⟩ _ _ 1 byteP Try.underlying42 Try.cellsByte (by omega) (fun f cs x h hl => by
    obtain ⟨D, hD, _, wD⟩ := DataW.trod_int Try.underlying5 h
    have hb : 0 ≤ D ∧ D ≤ 255 := by
      simp [Lit.wf, IntKind.signed, IntKind.bits, IntKind.min, IntKind.max] at wD
      omega
    refine ⟨D.toNat, ?_, by omega⟩
    rw [hD, show ((D.toNat : Nat) : Int) = D by omega]; rfl) _ _ _ h
  have hB : BR W a l := fun i hi => by
    obtain ⟨b, off, cs, e, ⟨p0, p1⟩, _, hc⟩ := h3 i hi
    refine ⟨p1, b, off, e, ?_⟩
    have := (hc 0 (by omega)).trans p0
    rw [Nat.mul_one, Nat.add_zero] at this
    exact this
  refine ⟨a, l, c, h1, h2, hB, fun h0 k off e => ?_⟩
  obtain ⟨_, b, off', e', hc⟩ := hB 0 h0
  rw [e] at e'
  cases e'
  exact World.block_lt_of_cell? W ⟨k, off + 0, none⟩ hc
def modP (W : World) (cs : List Value) (m : Md) : Prop := ∃ a c, cs[0]? = some (.int .i64 m.addr) ∧ cs[1]? = some (.int .i64 m.id) ∧ cs[2]? = some (.slice a m.list.length c) ∧ LR W a m.list ∧ m.list.length ≤ maxLen
theorem open_model (fuel : Nat) (cs : List Value) (x : DataW H × List MemPlace) (h : DataW.trod enc Try.prog W 0 (fun _ => true) true fuel 35 cs = some x) : ∃ m, modP W cs m := by
  obtain ⟨xs, m, rfl, rfl, hlen, hxs, hf⟩ := DataW.trod_struct Try.underlying35 h
  have hx : xs.length = 3 := hxs
  have hcl : cs.length = 3 := hlen.trans Try.cellsModel
  obtain ⟨a, ha, _⟩ := open_int (o := 0) (hf 0 _ rfl) (by simp [hx])
  obtain ⟨b, hb, _⟩ := open_int (o := 1) (hf 1 _ rfl) (by simp [hx])
  have h2 : DataW.trod enc Try.prog W 0 (fun _ => true) true m 33 (List.take (Try.prog.cellsOf 33) (List.drop 2 cs)) = xs[2]? := hf 2 _ rfl
  rw [Try.cellsRaws, List.getElem?_eq_getElem (by omega)] at h2
  obtain ⟨u, hu, hu'⟩ := part_of (cs := cs) (o := 2) (by omega)
  rw [hu'] at h2
  obtain ⟨la, l, lc, rfl, hl, hL⟩ := open_raws h2
  exact ⟨⟨a, b, l⟩, la, lc, ha, hb, hu, hL, hl⟩
theorem open_models {fuel : Nat} {v : Value} {x : DataW H × List MemPlace} (h : DataW.trod enc Try.prog W 0 (fun _ => true) true fuel 22 [v] = some x) :
    ∃ (a : Option Addr) (M : List Md) (c : Nat), v = .slice a M.length c ∧ M.length ≤ maxLen ∧ M.length ≤ c ∧ MRs W a M := by
  obtain ⟨a, l, c, h1, h2, h2', h3⟩ := @open_rows H enc W Md ⟨⟨0, 0, []⟩⟩ _ _ 3 (modP W) Try.underlying22 Try.cellsModel (by omega) (fun f cs x h _ => open_model f cs x h) _ _ _ h
  refine ⟨a, l, c, h1, h2, h2', fun i hi => ?_⟩
  obtain ⟨b, off, cs, e, ⟨la, lc, p0, p1, p2, p3, p4⟩, _, hc⟩ := h3 i hi
  exact ⟨b, off, la, lc, e, ⟨(hc 0 (by omega)).trans p0, (hc 1 (by omega)).trans p1, (hc 2 (by omega)).trans p2⟩, p3, p4⟩
def fltP (cs : List Value) (f : Flt) : Prop := cs[0]? = some (.int .i64 f.at_) ∧ cs[1]? = some (.int .i64 f.kind) ∧ cs[2]? = some (.int .i64 f.idx) ∧ cs[3]? = some (.int .u8 f.xor)
theorem open_fault (fuel : Nat) (cs : List Value) (x : DataW H × List MemPlace) (h : DataW.trod enc Try.prog W 0 (fun _ => true) true fuel 76 cs = some x) : ∃ f, fltP cs f := by
  obtain ⟨xs, m, rfl, rfl, hlen, hxs, hf⟩ := DataW.trod_struct Try.underlying76 h
  have hx : xs.length = 4 := hxs
  obtain ⟨a, ha, _⟩ := open_int (o := 0) (hf 0 _ rfl) (by simp [hx])
  obtain ⟨b, hb, _⟩ := open_int (o := 1) (hf 1 _ rfl) (by simp [hx])
  obtain ⟨c, hc, _⟩ := open_int (o := 2) (hf 2 _ rfl) (by simp [hx])
  have h3 : DataW.trod enc Try.prog W 0 (fun _ => true) true m 5 (List.take (Try.prog.cellsOf 5) (List.drop 3 cs)) = xs[3]? := hf 3 _ rfl
  rw [Try.cellsByte, List.getElem?_eq_getElem (by omega)] at h3
  obtain ⟨d, hd, _, _⟩ := DataW.trod_int Try.underlying5 h3
  exact ⟨⟨a, b, c, d⟩, ha, hb, hc, part_one hd⟩
theorem open_faults {fuel : Nat} {v : Value} {x : DataW H × List MemPlace} (h : DataW.trod enc Try.prog W 0 (fun _ => true) true fuel 23 [v] = some x) :
    ∃ (a : Option Addr) (F : List Flt) (c : Nat), v = .slice a F.length c ∧ F.length ≤ maxLen ∧ FRs W a F := by
  obtain ⟨a, l, c, h1, h2, _, h3⟩ := @open_rows H enc W Flt ⟨noF⟩ _ _ 4 fltP Try.underlying23 Try.cellsFault (by omega) (fun f cs x h _ => open_fault f cs x h) _ _ _ h
  refine ⟨a, l, c, h1, h2, fun i hi => ?_⟩
  obtain ⟨b, off, cs, e, ⟨p0, p1, p2, p3⟩, _, hc⟩ := h3 i hi
  exact ⟨b, off, e, (hc 0 (by omega)).trans p0, (hc 1 (by omega)).trans p1, (hc 2 (by omega)).trans p2, (hc 3 (by omega)).trans p3⟩
def actP (W : World) (cs : List Value) (x : Ac) : Prop := ∃ a c, (cs[0]? = some (.int .i64 x.do_) ∧ cs[1]? = some (.int .i64 x.addr) ∧ cs[2]? = some (.int .i64 x.reg) ∧ cs[3]? = some (.slice a x.wr.length c) ∧ cs[4]? = some (.int .i64 x.rd) ∧ cs[5]? = some (.int .i64 x.n)) ∧ BR W a x.wr ∧ x.wr.length ≤ maxLen ∧ (-9223372036854775808 ≤ x.n ∧ x.n ≤ 9223372036854775807) ∧ (0 < x.wr.length → ∀ k off, a = some ⟨k, off, none⟩ → k < W.heap.size)
theorem drop_at {cs : List Value} {o n j : Nat} {v : Value} (hj : j < n) (h : (List.take n (List.drop o cs))[j]? = some v) : cs[o + j]? = some v := by
  rw [List.getElem?_take_of_lt hj, List.getElem?_drop] at h
  exact h
theorem open_act (fuel : Nat) (cs : List Value) (x : DataW H × List MemPlace) (h : DataW.trod enc Try.prog W 0 (fun _ => true) true fuel 46 cs = some x) : ∃ y, actP W cs y := by
  obtain ⟨xs, m, rfl, rfl, hlen, hxs, hf⟩ := DataW.trod_struct Try.underlying46 h
  have hx : xs.length = 3 := hxs
  have hcl : cs.length = 6 := hlen.trans Try.cellsAct
  obtain ⟨a, ha, _⟩ := open_int (o := 0) (hf 0 _ rfl) (by simp [hx])
  obtain ⟨n, hn, bn⟩ := open_int (o := 5) (hf 2 _ rfl) (by simp [hx])
  have h1 : DataW.trod enc Try.prog W 0 (fun _ => true) true m 44 (List.take (Try.prog.cellsOf 44) (List.drop 1 cs)) = xs[1]? := hf 1 _ rfl
  rw [Try.cellsTx, List.getElem?_eq_getElem (by omega)] at h1
  obtain ⟨ys, m2, hys, hyz, hlen2, hxs2, hf2⟩ := DataW.trod_struct Try.underlying44 h1
  have hx2 : ys.length = 4 := hxs2
  obtain ⟨ad, had, _⟩ := open_int (o := 0) (hf2 0 _ rfl) (by simp [hx2])
  obtain ⟨rg, hrg, _⟩ := open_int (o := 1) (hf2 1 _ rfl) (by simp [hx2])
  obtain ⟨rd, hrd, _⟩ := open_int (o := 3) (hf2 3 _ rfl) (by simp [hx2])
  have h2 : DataW.trod enc Try.prog W 0 (fun _ => true) true m2 42 (List.take (Try.prog.cellsOf 42) (List.drop 2 (List.take 4 (List.drop 1 cs)))) = ys[2]? := hf2 2 _ rfl
  rw [Try.cellsBytes, List.getElem?_eq_getElem (by omega)] at h2
  obtain ⟨u, hu, hu'⟩ := part_of (cs := List.take 4 (List.drop 1 cs)) (o := 2) (by simp; omega)
  rw [hu'] at h2
  obtain ⟨wa, wl, wc, rfl, hwl, hwb, hwk⟩ := open_bytes h2
  exact ⟨⟨a, ad, rg, wl, rd, n⟩, wa, wc, ⟨ha, drop_at (o := 1) (by omega) had, drop_at (o := 1) (by omega) hrg, drop_at (o := 1) (by omega) hu, drop_at (o := 1) (by omega) hrd, hn⟩, hwb, hwl, bn, hwk⟩
theorem open_acts {fuel : Nat} {v : Value} {x : DataW H × List MemPlace} (h : DataW.trod enc Try.prog W 0 (fun _ => true) true fuel 24 [v] = some x) :
    ∃ (a : Option Addr) (L : List Ac) (c : Nat), v = .slice a L.length c ∧ L.length ≤ maxLen ∧ ARs W a L := by
  obtain ⟨a, l, c, h1, h2, _, h3⟩ := @open_rows H enc W Ac ⟨⟨0, 0, 0, [], 0, 0⟩⟩ _ _ 6 (actP W) Try.underlying24 Try.cellsAct (by omega) (fun f cs x h _ => open_act f cs x h) _ _ _ h
  refine ⟨a, l, c, h1, h2, fun i hi => ?_⟩
  obtain ⟨b, off, cs, e, ⟨wa, wc, ⟨p0, p1, p2, p3, p4, p5⟩, q1, q2, q3, q4⟩, _, hc⟩ := h3 i hi
  exact ⟨b, off, wa, wc, e, ⟨(hc 0 (by omega)).trans p0, (hc 1 (by omega)).trans p1, (hc 2 (by omega)).trans p2, (hc 3 (by omega)).trans p3, (hc 4 (by omega)).trans p4, (hc 5 (by omega)).trans p5⟩, q1, q2, q3.1, q3.2, q4⟩
set_option maxRecDepth 100000 in
/-- a script: models, faults, acts -/
theorem open_script {v : Value} {t : TypeId} (hv : Value.okWide Try.prog W .any t 26 v) {x : DataW H × List MemPlace} (h0 : ∃ fuel, DataW.trod enc Try.prog W 0 (fun _ => true) true fuel 26 v.cells.toList = some x) :
    ∃ am M cm af F cf al L cl, v = .agg #[.slice am (List.length (α := Md) M) cm, .slice af (List.length (α := Flt) F) cf, .slice al (List.length (α := Ac) L) cl] ∧ (M.length ≤ maxLen ∧ M.length ≤ cm ∧ MRs W am M) ∧ (F.length ≤ maxLen ∧ FRs W af F) ∧ L.length ≤ maxLen ∧ ARs W al L := by
  obtain ⟨cs, rfl, hcs⟩ := okWide_struct Try.underlying26 hv
  rw [Try.cellsScript] at hcs
  obtain ⟨fuel, h⟩ := h0
  simp only [Value.cells] at h
  obtain ⟨xs, m, rfl, rfl, hlen, hxs, hf⟩ := DataW.trod_struct Try.underlying26 h
  have hx : xs.length = 3 := hxs
  have h0 : DataW.trod enc Try.prog W 0 (fun _ => true) true m 22 (List.take (Try.prog.cellsOf 22) (List.drop 0 cs.toList)) = xs[0]? := hf 0 _ rfl
  have h1 : DataW.trod enc Try.prog W 0 (fun _ => true) true m 23 (List.take (Try.prog.cellsOf 23) (List.drop 1 cs.toList)) = xs[1]? := hf 1 _ rfl
  have h2 : DataW.trod enc Try.prog W 0 (fun _ => true) true m 24 (List.take (Try.prog.cellsOf 24) (List.drop 2 cs.toList)) = xs[2]? := hf 2 _ rfl
  rw [Try.cellsModels, List.getElem?_eq_getElem (by omega)] at h0
  rw [Try.cellsFaults, List.getElem?_eq_getElem (by omega)] at h1
  rw [Try.cellsActs, List.getElem?_eq_getElem (by omega)] at h2
  have hl3 : cs.toList.length = 3 := by simpa using hcs
  obtain ⟨u0, hu0, hu0'⟩ := part_of (cs := cs.toList) (o := 0) (by omega)
  obtain ⟨u1, hu1, hu1'⟩ := part_of (cs := cs.toList) (o := 1) (by omega)
  obtain ⟨u2, hu2, hu2'⟩ := part_of (cs := cs.toList) (o := 2) (by omega)
  rw [hu0'] at h0
  rw [hu1'] at h1
  rw [hu2'] at h2
  obtain ⟨am, M, cm, rfl, q1, q2, q3⟩ := open_models h0
  obtain ⟨af, F, cf, rfl, q4, q5⟩ := open_faults h1
  obtain ⟨al, L, cl, rfl, q6, q7⟩ := open_acts h2
  refine ⟨am, M, cm, af, F, cf, al, L, cl, ?_, ⟨q1, q2, q3⟩, ⟨q4, q5⟩, q6, q7⟩
  congr 1
  apply Array.ext'
  apply List.ext_getElem?
  intro i
  match i with
  | 0 => simpa using hu0
  | 1 => simpa using hu1
  | 2 => simpa using hu2
  | i + 3 => rw [List.getElem?_eq_none (by omega), List.getElem?_eq_none (by simp)]
end
end Go.Proofs.Ytfgljkeohoffiaa
