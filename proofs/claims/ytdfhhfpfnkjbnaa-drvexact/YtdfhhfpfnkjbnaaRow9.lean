/- How asks that came in are read. -/
import Derived.Test.YtdfhhfpfnkjbnaaRows
import Derived.Test.YtdfhhfpfnkjbnaaAk
import Derived.ProofKit
import Derived.OpenShut
import Derived.ChangeOld
import Derived.Deep.Slices
namespace Go.Proofs.Ytdfhhfpfnkjbnaa
open Go.ChangeShapes Go.WideShapes Go.ChangeAt Go.RowKit Go.Deep

theorem Try.own : ownKnob Try.prog.godebug = none := by kernel_rfl
theorem Try.laidOut : laidOutB Try.prog = true := by kernel_rfl
theorem Try.cellsAsk : Try.prog.cellsOf 29 = 13 := by kernel_rfl
theorem Try.cellsDrv : Try.prog.cellsOf 24 = 9 := by kernel_rfl
theorem Try.cellsAnswer : Try.prog.cellsOf 27 = 2 := by kernel_rfl
theorem Try.cellsInt : Try.prog.cellsOf 3 = 1 := by kernel_rfl
theorem Try.cellsBool : Try.prog.cellsOf 4 = 1 := by kernel_rfl
theorem Try.cellsByte : Try.prog.cellsOf 5 = 1 := by kernel_rfl
theorem Try.cellsBytes : Try.prog.cellsOf 25 = 1 := by kernel_rfl
theorem i64_bounds {n : Int} (h : (Lit.int .i64 n).wf = true) : -9223372036854775808 ≤ n ∧ n ≤ 9223372036854775807 := by
  have := bounds_i64 h
  omega
section
variable {H : Type} {enc : TypeId × Value → H} {W : World}
theorem part_one {cs : List Value} {o : Nat} {v : Value} (h : List.take 1 (List.drop o cs) = [v]) : cs[o]? = some v := by
  have := congrArg (fun l => l[0]?) h
  simp only [List.getElem?_cons_zero] at this
  rw [List.getElem?_take_of_lt (by omega), List.getElem?_drop] at this
  simpa using this
theorem part_of {cs : List Value} {o : Nat} (h : o < cs.length) : ∃ v, cs[o]? = some v ∧ List.take 1 (List.drop o cs) = [v] := by
  refine ⟨cs[o], by simp [h], ?_⟩
  rw [List.drop_eq_getElem_cons h, List.take_succ_cons, List.take_zero]
/-- an integer among a struct's cells -/
theorem open_int {m : Nat} {cs : List Value} {o : Nat} {y : Option (DataW H × List MemPlace)} (h : DataW.trod enc Try.prog W 0 (fun _ => true) true m 3 (List.take (Try.prog.cellsOf 3) (List.drop o cs)) = y) (hy : y.isSome = true) :
    ∃ D, cs[o]? = some (.int .i64 D) ∧ -9223372036854775808 ≤ D ∧ D ≤ 9223372036854775807 := by
  obtain ⟨x, rfl⟩ := Option.isSome_iff_exists.1 hy
  rw [Try.cellsInt] at h
  obtain ⟨D, hD, _, wD⟩ := DataW.trod_int Try.underlying3 h
  exact ⟨D, part_one hD, i64_bounds wD⟩
/-- a row of things, each read by p -/
theorem open_rows {α : Type} [Inhabited α] {T e : TypeId} {cells : Nat} {p : List Value → α → Prop} (hT : Try.prog.underlying T = some (.slice e)) (hc : Try.prog.cellsOf e = cells) (h1 : 0 < cells)
    (hp : ∀ (fuel : Nat) (cs : List Value) (x : DataW H × List MemPlace), DataW.trod enc Try.prog W 0 (fun _ => true) true fuel e cs = some x → cs.length = cells → ∃ a, p cs a)
    {fuel : Nat} {v : Value} {x : DataW H × List MemPlace} (h : DataW.trod enc Try.prog W 0 (fun _ => true) true fuel T [v] = some x) :
    ∃ (a : Option Addr) (l : List α) (c : Nat), v = .slice a l.length c ∧ l.length ≤ maxLen ∧ l.length ≤ c ∧ ∀ i, i < l.length → ∃ b off cs, a = some ⟨b, off, none⟩ ∧ p cs (l.getD i default) ∧ cs.length = cells ∧ ∀ j, j < cells → W.cell? ⟨b, off + i * cells + j, none⟩ = cs[j]? := by
  rcases open_slice hT h with ⟨hcs, _⟩ | ⟨x, len, c, m, n, D, Pl, hcs, _, hl, hm, hmm, _, hel⟩
  · simp only [List.cons.injEq, and_true] at hcs
    exact ⟨none, [], 0, hcs, Nat.zero_le _, Nat.zero_le _, fun i hi => by simp at hi⟩
  · simp only [List.cons.injEq, and_true] at hcs
    simp only [if_true] at hmm
    obtain ⟨b, off, spot⟩ := x
    rw [hc] at hel
    have hcell : ∀ i, ∃ y : List Value × α, i < len → p y.1 y.2 ∧ y.1.length = cells ∧ ∀ j, j < cells → W.cell? (((⟨b, off, spot⟩ : Addr).add (i * cells)).add j) = y.1[j]? := by
      intro i
      by_cases hi : i < len
      · obtain ⟨cs', q1, q2⟩ := hel i (by omega)
        obtain ⟨_, q3, q4⟩ := World.cells?_some q1
        obtain ⟨a, ha⟩ := hp _ _ _ q2 q3
        exact ⟨(cs', a), fun _ => ⟨ha, q3, fun j hj => q4 j hj⟩⟩
      · exact ⟨([], default), fun h => absurd h hi⟩
    obtain ⟨y, hy⟩ := Classical.axiomOfChoice hcell
    by_cases h0 : len = 0
    · subst h0
      exact ⟨_, [], c, hcs, Nat.zero_le _, Nat.zero_le _, fun i hi => by simp at hi⟩
    have hspot : spot = none := by
      obtain ⟨_, hD1, hD⟩ := hy 0 (by omega)
      have h2 := hD 0 h1
      rw [List.getElem?_eq_getElem (by omega)] at h2
      simpa [Addr.add] using World.cell?_spot h2
    subst hspot
    refine ⟨_, (List.range len).map (fun i => (y i).2), c, by simpa using hcs, by simp; omega, by simp; omega, ?_⟩
    intro i hi
    have hi' : i < len := by simpa using hi
    obtain ⟨q1, q2, q3⟩ := hy i hi'
    refine ⟨b, off, (y i).1, rfl, ?_, q2, fun j hj => ?_⟩
    · have : ((List.range len).map (fun i => (y i).2)).getD i default = (y i).2 := by simp [hi']
      rw [this]; exact q1
    · have := q3 j hj
      simpa only [add_plain] using this
theorem open_bool {m : Nat} {cs : List Value} {o : Nat} {y : Option (DataW H × List MemPlace)} (h : DataW.trod enc Try.prog W 0 (fun _ => true) true m 4 (List.take (Try.prog.cellsOf 4) (List.drop o cs)) = y) (hy : y.isSome = true) :
    ∃ D, cs[o]? = some (.bool D) := by
  obtain ⟨x, rfl⟩ := Option.isSome_iff_exists.1 hy
  rw [Try.cellsBool] at h
  obtain ⟨D, hD, _⟩ := DataW.trod_bool Try.underlying4 h
  exact ⟨D, part_one hD⟩
def byteP (cs : List Value) (n : Int) : Prop := cs[0]? = some (.int .u8 n) ∧ 0 ≤ n ∧ n ≤ 255
theorem open_bytes {fuel : Nat} {v : Value} {x : DataW H × List MemPlace} (h : DataW.trod enc Try.prog W 0 (fun _ => true) true fuel 25 [v] = some x) :
    ∃ (a : Option Addr) (l : List Int) (c : Nat), v = .slice a l.length c ∧ l.length ≤ maxLen ∧ l.length ≤ c ∧ RdY W 0 a l ∧ ∀ x ∈ l, 0 ≤ x ∧ x ≤ 255 := by
  obtain ⟨a, l, c, h1, h2, h2', h3⟩ := @open_rows H enc W Int ⟨0⟩ _ _ 1 byteP Try.underlying25 Try.cellsByte (by omega) (fun f cs x h hl => by
    obtain ⟨D, hD, _, wD⟩ := DataW.trod_int Try.underlying5 h
    have hb : 0 ≤ D ∧ D ≤ 255 := by
      simp [Lit.wf, IntKind.signed, IntKind.bits, IntKind.min, IntKind.max] at wD
      omega
    exact ⟨D, by rw [hD]; rfl, hb⟩) _ _ _ h
  refine ⟨a, l, c, h1, h2, h2', fun i hi => ?_, fun x hx => ?_⟩
  · obtain ⟨b, off, cs, e, ⟨p0, p1⟩, _, hc⟩ := h3 i hi
    refine ⟨b, off, e, Nat.zero_le _, ?_⟩
    have := (hc 0 (by omega)).trans p0
    rw [Nat.mul_one, Nat.add_zero] at this
    exact this
  · obtain ⟨i, hi, rfl⟩ := List.getElem_of_mem hx
    obtain ⟨b, off, cs, e, ⟨p0, p1⟩, _, hc⟩ := h3 i hi
    have e2 : l.getD i default = l[i] := by simp [hi]
    rw [e2] at p1
    exact p1
def drP (cs : List Value) (d : Dr) : Prop := cs[0]? = some (.int .i64 d.addr) ∧ cs[1]? = some (.int .i64 d.id) ∧ cs[2]? = some (.bool d.want) ∧ cs[3]? = some (.int .i64 d.per) ∧ cs[4]? = some (.int .i64 d.st) ∧ cs[5]? = some (.int .i64 d.fails) ∧ cs[6]? = some (.bool d.tried) ∧ cs[7]? = some (.int .i64 d.left) ∧ cs[8]? = some (.int .i64 d.bad)
theorem open_dr (fuel : Nat) (cs : List Value) (x : DataW H × List MemPlace) (h : DataW.trod enc Try.prog W 0 (fun _ => true) true fuel 24 cs = some x) : ∃ r, drP cs r := by
  obtain ⟨xs, m, rfl, rfl, hlen, hxs, hf⟩ := DataW.trod_struct Try.underlying24 h
  have hx : xs.length = 9 := hxs
  obtain ⟨a0, h0, _⟩ := open_int (o := 0) (hf 0 _ rfl) (by simp [hx])
  obtain ⟨a1, h1, _⟩ := open_int (o := 1) (hf 1 _ rfl) (by simp [hx])
  obtain ⟨a2, h2⟩ := open_bool (o := 2) (hf 2 _ rfl) (by simp [hx])
  obtain ⟨a3, h3, _⟩ := open_int (o := 3) (hf 3 _ rfl) (by simp [hx])
  obtain ⟨a4, h4, _⟩ := open_int (o := 4) (hf 4 _ rfl) (by simp [hx])
  obtain ⟨a5, h5, _⟩ := open_int (o := 5) (hf 5 _ rfl) (by simp [hx])
  obtain ⟨a6, h6⟩ := open_bool (o := 6) (hf 6 _ rfl) (by simp [hx])
  obtain ⟨a7, h7, _⟩ := open_int (o := 7) (hf 7 _ rfl) (by simp [hx])
  obtain ⟨a8, h8, _⟩ := open_int (o := 8) (hf 8 _ rfl) (by simp [hx])
  exact ⟨⟨a0, a1, a2, a3, a4, a5, a6, a7, a8⟩, h0, h1, h2, h3, h4, h5, h6, h7, h8⟩
def askP (W : World) (cs : List Value) (x : Ask) : Prop := ∃ a c, drP cs x.d ∧ cs[9]? = some (.bool x.want) ∧ cs[10]? = some (.int .i64 x.per) ∧ cs[11]? = some (.int .i64 x.st) ∧ cs[12]? = some (.slice a x.data.length c) ∧ RdY W 0 a x.data ∧ x.data.length ≤ maxLen ∧ (∀ y ∈ x.data, 0 ≤ y ∧ y ≤ 255) ∧ x.data.length ≤ c ∧ -9223372036854775808 ≤ x.per ∧ x.per ≤ 9223372036854775807
theorem open_ask (fuel : Nat) (cs : List Value) (x : DataW H × List MemPlace) (h : DataW.trod enc Try.prog W 0 (fun _ => true) true fuel 29 cs = some x) : ∃ r, askP W cs r := by
  obtain ⟨xs, m, rfl, rfl, hlen, hxs, hf⟩ := DataW.trod_struct Try.underlying29 h
  have hx : xs.length = 4 := hxs
  have hcl : cs.length = 13 := hlen.trans Try.cellsAsk
  have h0 : DataW.trod enc Try.prog W 0 (fun _ => true) true m 24 (List.take (Try.prog.cellsOf 24) (List.drop 0 cs)) = xs[0]? := hf 0 _ rfl
  rw [Try.cellsDrv, List.getElem?_eq_getElem (by omega)] at h0
  obtain ⟨d, hd⟩ := open_dr _ _ _ h0
  obtain ⟨b, hb⟩ := open_bool (o := 9) (hf 1 _ rfl) (by simp [hx])
  obtain ⟨p, hp, bp⟩ := open_int (o := 10) (hf 2 _ rfl) (by simp [hx])
  have h3 : DataW.trod enc Try.prog W 0 (fun _ => true) true m 27 (List.take (Try.prog.cellsOf 27) (List.drop 11 cs)) = xs[3]? := hf 3 _ rfl
  rw [Try.cellsAnswer, List.getElem?_eq_getElem (by omega)] at h3
  obtain ⟨ys, m2, _, _, hlen2, hys, hg⟩ := DataW.trod_struct Try.underlying27 h3
  have hy : ys.length = 2 := hys
  obtain ⟨s, hs, _⟩ := open_int (o := 0) (hg 0 _ rfl) (by simp [hy])
  have h4 : DataW.trod enc Try.prog W 0 (fun _ => true) true m2 25 (List.take (Try.prog.cellsOf 25) (List.drop 1 (List.take 2 (List.drop 11 cs)))) = ys[1]? := hg 1 _ rfl
  rw [Try.cellsBytes, List.getElem?_eq_getElem (by omega)] at h4
  obtain ⟨u, hu, hu'⟩ := part_of (cs := List.take 2 (List.drop 11 cs)) (o := 1) (by simp; omega)
  rw [hu'] at h4
  obtain ⟨a, l, c, rfl, q1, q0, q2, q3⟩ := open_bytes h4
  have t9 : ∀ j, j < 9 → (List.take 9 (List.drop 0 cs))[j]? = cs[j]? := fun j hj => by rw [List.getElem?_take_of_lt hj, List.getElem?_drop, Nat.zero_add]
  have t2 : ∀ j, j < 2 → (List.take 2 (List.drop 11 cs))[j]? = cs[11 + j]? := fun j hj => by rw [List.getElem?_take_of_lt hj, List.getElem?_drop]
  obtain ⟨d0, d1, d2, d3, d4, d5, d6, d7, d8⟩ := hd
  refine ⟨⟨d, b, p, s, l⟩, a, c, ⟨?_, ?_, ?_, ?_, ?_, ?_, ?_, ?_, ?_⟩, hb, hp, ?_, ?_, q2, q1, q3, q0, bp⟩
  · rw [← t9 0 (by omega)]; exact d0
  · rw [← t9 1 (by omega)]; exact d1
  · rw [← t9 2 (by omega)]; exact d2
  · rw [← t9 3 (by omega)]; exact d3
  · rw [← t9 4 (by omega)]; exact d4
  · rw [← t9 5 (by omega)]; exact d5
  · rw [← t9 6 (by omega)]; exact d6
  · rw [← t9 7 (by omega)]; exact d7
  · rw [← t9 8 (by omega)]; exact d8
  · rw [show 11 = 11 + 0 from rfl, ← t2 0 (by omega)]; exact hs
  · rw [show 12 = 11 + 1 from rfl, ← t2 1 (by omega)]; exact hu
theorem open_asks {fuel : Nat} {v : Value} {x : DataW H × List MemPlace} (h : DataW.trod enc Try.prog W 0 (fun _ => true) true fuel 22 [v] = some x) :
    ∃ (a : Option Addr) (L : List Ask) (c : Nat), v = .slice a L.length c ∧ L.length ≤ maxLen ∧ AKs W a L := by
  obtain ⟨a, l, c, h1, h2, _, h3⟩ := @open_rows H enc W Ask ⟨⟨zeroD, false, 0, 0, []⟩⟩ _ _ 13 (askP W) Try.underlying22 Try.cellsAsk (by omega) (fun f cs x h _ => open_ask f cs x h) _ _ _ h
  refine ⟨a, l, c, h1, h2, fun i hi => ?_⟩
  obtain ⟨b, off, cs, e, ⟨da, dc, ⟨p0, p1, p2, p3, p4, p5, p6, p7, p8⟩, p9, p10, p11, p12, p13, p14, p15, p16⟩, _, hc⟩ := h3 i hi
  exact ⟨b, off, da, dc, e, ⟨⟨(hc 0 (by omega)).trans p0, (hc 1 (by omega)).trans p1, (hc 2 (by omega)).trans p2, (hc 3 (by omega)).trans p3, (hc 4 (by omega)).trans p4, (hc 5 (by omega)).trans p5, (hc 6 (by omega)).trans p6, (hc 7 (by omega)).trans p7, (hc 8 (by omega)).trans p8⟩, (hc 9 (by omega)).trans p9, (hc 10 (by omega)).trans p10, (hc 11 (by omega)).trans p11, (hc 12 (by omega)).trans p12⟩, p13, p14, p15, p16⟩
end
end Go.Proofs.Ytdfhhfpfnkjbnaa
