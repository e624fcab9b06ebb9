/- How asks that came in are read. -/
import Derived.Test.YtfooakbcgjebfaaRows
import Derived.Test.YtfooakbcgjebfaaMdn
import Derived.ProofKit
import Derived.OpenShut
import Derived.ChangeOld
import Derived.Deep.Slices
namespace Go.Proofs.Ytfooakbcgjebfaa
open Go.ChangeShapes Go.WideShapes Go.ChangeAt Go.RowKit Go.Deep

theorem Try.own : ownKnob Try.prog.godebug = none := by kernel_rfl
theorem Try.laidOut : laidOutB Try.prog = true := by kernel_rfl
theorem Try.cellsAsk : Try.prog.cellsOf 27 = 5 := by kernel_rfl
theorem Try.cellsVec : Try.prog.cellsOf 25 = 3 := by kernel_rfl
theorem Try.cellsVecs : Try.prog.cellsOf 23 = 1 := by kernel_rfl
theorem Try.cellsInt : Try.prog.cellsOf 3 = 1 := by kernel_rfl
theorem Try.cellsI64 : Try.prog.cellsOf 2 = 1 := by kernel_rfl
theorem i64_bounds {n : Int} (h : (Lit.int .i64 n).wf = true) : -9223372036854775808 ≤ n ∧ n ≤ 9223372036854775807 := by
  have := bounds_i64 h
  omega
section
variable {H : Type} {enc : TypeId × Value → H} {W : World}
theorem part_one {cs : List Value} {o : Nat} {v : Value} (h : List.take 1 (List.drop o cs) = [v]) : cs[o]? = some v := by
  have := congrArg (fun l => l[0]?) h
  simp only [List.getElem?_cons_zero] at this
  rw [List.getElem?_take_of_lt (by omega), List.getElem?_drop] at this
  simpa using this
theorem part_of {cs : List Value} {o : Nat} (h : o < cs.length) : ∃ v, cs[o]? = some v ∧ List.take 1 (List.drop o cs) = [v] := by
  refine ⟨cs[o], by simp [h], ?_⟩
  rw [List.drop_eq_getElem_cons h, List.take_succ_cons, List.take_zero]
/-- an integer among a struct's cells -/
theorem open_int {m : Nat} {cs : List Value} {o : Nat} {y : Option (DataW H × List MemPlace)} (h : DataW.trod enc Try.prog W 0 (fun _ => true) true m 3 (List.take (Try.prog.cellsOf 3) (List.drop o cs)) = y) (hy : y.isSome = true) :
    ∃ D, cs[o]? = some (.int .i64 D) ∧ -9223372036854775808 ≤ D ∧ D ≤ 9223372036854775807 := by
  obtain ⟨x, rfl⟩ := Option.isSome_iff_exists.1 hy
  rw [Try.cellsInt] at h
  obtain ⟨D, hD, _, wD⟩ := DataW.trod_int Try.underlying3 h
  exact ⟨D, part_one hD, i64_bounds wD⟩
/-- a row of things, each read by p -/
theorem open_rows {α : Type} [Inhabited α] {T e : TypeId} {cells : Nat} {p : List Value → α → Prop} (hT : Try.prog.underlying T = some (.slice e)) (hc : Try.prog.cellsOf e = cells) (h1 : 0 < cells)
    (hp : ∀ (fuel : Nat) (cs : List Value) (x : DataW H × List MemPlace), DataW.trod enc Try.prog W 0 (fun _ => true) true fuel e cs = some x → cs.length = cells → ∃ a, p cs a)
    {fuel : Nat} {v : Value} {x : DataW H × List MemPlace} (h : DataW.trod enc Try.prog W 0 (fun _ => true) true fuel T [v] = some x) :
    ∃ (a : Option Addr) (l : List α) (c : Nat), v = .slice a l.length c ∧ l.length ≤ maxLen ∧ l.length ≤ c ∧ ∀ i, i < l.length → ∃ b off cs, a = some ⟨b, off, none⟩ ∧ p cs (l.getD i default) ∧ cs.length = cells ∧ ∀ j, j < cells → W.cell? ⟨b, off + i * cells + j, none⟩ = cs[j]? := by
  rcases open_slice hT h with ⟨hcs, _⟩ | ⟨x, len, c, m, n, D, Pl, hcs, _, hl, hm, hmm, _, hel⟩
  · simp only [List.cons.injEq, and_true] at hcs
    exact ⟨none, [], 0, hcs, Nat.zero_le _, Nat.zero_le _, fun i hi => by simp at hi⟩
  · simp only [List.cons.injEq, and_true] at hcs
    simp only [if_true] at hmm
    obtain ⟨b, off, spot⟩ := x
    rw [hc] at hel
    have hcell : ∀ i, ∃ y : List Value × α, i < len → p y.1 y.2 ∧ y.1.length = cells ∧ ∀ j, j < cells → W.cell? (((⟨b, off, spot⟩ : Addr).add (i * cells)).add j) = y.1[j]? := by
      intro i
      by_cases hi : i < len
      · obtain ⟨cs', q1, q2⟩ := hel i (by omega)
        obtain ⟨_, q3, q4⟩ := World.cells?_some q1
        obtain ⟨a, ha⟩ := hp _ _ _ q2 q3
        exact ⟨(cs', a), fun _ => ⟨ha, q3, fun j hj => q4 j hj⟩⟩
      · exact ⟨([], default), fun h => absurd h hi⟩
    obtain ⟨y, hy⟩ := Classical.axiomOfChoice hcell
    by_cases h0 : len = 0
    · subst h0
      exact ⟨_, [], c, hcs, Nat.zero_le _, Nat.zero_le _, fun i hi => by simp at hi⟩
    have hspot : spot = none := by
      obtain ⟨_, hD1, hD⟩ := hy 0 (by omega)
      have h2 := hD 0 h1
      rw [List.getElem?_eq_getElem (by omega)] at h2
      simpa [Addr.add] using World.cell?_spot h2
    subst hspot
    refine ⟨_, (List.range len).map (fun i => (y i).2), c, by simpa using hcs, by simp; omega, by simp; omega, ?_⟩
    intro i hi
    have hi' : i < len := by simpa using hi
    obtain ⟨q1, q2, q3⟩ := hy i hi'
    refine ⟨b, off, (y i).1, rfl, ?_, q2, fun j hj => ?_⟩
    · have : ((List.range len).map (fun i => (y i).2)).getD i default = (y i).2 := by simp [hi']
      rw [this]; exact q1
    · have := q3 j hj
      simpa only [add_plain] using this
/-- a number of 64 bits among a struct's cells -/
theorem open_i64 {m : Nat} {cs : List Value} {o : Nat} {y : Option (DataW H × List MemPlace)} (h : DataW.trod enc Try.prog W 0 (fun _ => true) true m 2 (List.take (Try.prog.cellsOf 2) (List.drop o cs)) = y) (hy : y.isSome = true) :
    ∃ D, cs[o]? = some (.int .i64 D) := by
  obtain ⟨x, rfl⟩ := Option.isSome_iff_exists.1 hy
  rw [Try.cellsI64] at h
  obtain ⟨D, hD, _, wD⟩ := DataW.trod_int Try.underlying2 h
  exact ⟨D, part_one hD⟩
def vecP (cs : List Value) (v : Vc) : Prop := cs[0]? = some (.int .i64 v.x) ∧ cs[1]? = some (.int .i64 v.y) ∧ cs[2]? = some (.int .i64 v.z)
theorem open_vec (fuel : Nat) (cs : List Value) (x : DataW H × List MemPlace) (h : DataW.trod enc Try.prog W 0 (fun _ => true) true fuel 25 cs = some x) : ∃ r, vecP cs r := by
  obtain ⟨xs, m, rfl, rfl, hlen, hxs, hf⟩ := DataW.trod_struct Try.underlying25 h
  have hx : xs.length = 3 := hxs
  obtain ⟨a0, h0⟩ := open_i64 (o := 0) (hf 0 _ rfl) (by simp [hx])
  obtain ⟨a1, h1⟩ := open_i64 (o := 1) (hf 1 _ rfl) (by simp [hx])
  obtain ⟨a2, h2⟩ := open_i64 (o := 2) (hf 2 _ rfl) (by simp [hx])
  exact ⟨⟨a0, a1, a2⟩, h0, h1, h2⟩
theorem open_vecs {fuel : Nat} {v : Value} {x : DataW H × List MemPlace} (h : DataW.trod enc Try.prog W 0 (fun _ => true) true fuel 23 [v] = some x) :
    ∃ (a : Option Addr) (l : List Vc) (c : Nat), v = .slice a l.length c ∧ l.length ≤ maxLen ∧ l.length ≤ c ∧ VL W a l := by
  obtain ⟨a, l, c, h1, h2, h2', h3⟩ := @open_rows H enc W Vc ⟨nought⟩ _ _ 3 vecP Try.underlying23 Try.cellsVec (by omega) (fun f cs x h _ => open_vec f cs x h) _ _ _ h
  refine ⟨a, l, c, h1, h2, h2', fun i x hi => ?_⟩
  obtain ⟨hlt, he⟩ := List.getElem?_eq_some_iff.1 hi
  obtain ⟨b, off, cs, e, ⟨p0, p1, p2⟩, _, hc⟩ := h3 i hlt
  have e2 : l.getD i (@default Vc ⟨nought⟩) = x := by simp [hlt, he]
  rw [e2] at p0 p1 p2
  refine ⟨b, off, e, ?_, (hc 1 (by omega)).trans p1, (hc 2 (by omega)).trans p2⟩
  have := (hc 0 (by omega)).trans p0
  rwa [Nat.add_zero] at this
def askP (W : World) (cs : List Value) (x : Ask) : Prop := ∃ a c, cs[0]? = some (.slice a x.l.length c) ∧ cs[1]? = some (.int .i64 x.n) ∧ (cs[2]? = some (.int .i64 x.v.x) ∧ cs[3]? = some (.int .i64 x.v.y) ∧ cs[4]? = some (.int .i64 x.v.z)) ∧ VL W a x.l ∧ x.l.length ≤ c ∧ x.l.length ≤ maxLen ∧ -9223372036854775808 ≤ x.n ∧ x.n ≤ 9223372036854775807
theorem open_ask (fuel : Nat) (cs : List Value) (x : DataW H × List MemPlace) (h : DataW.trod enc Try.prog W 0 (fun _ => true) true fuel 27 cs = some x) : ∃ r, askP W cs r := by
  obtain ⟨xs, m, rfl, rfl, hlen, hxs, hf⟩ := DataW.trod_struct Try.underlying27 h
  have hx : xs.length = 3 := hxs
  have hcl : cs.length = 5 := hlen.trans Try.cellsAsk
  have h0 : DataW.trod enc Try.prog W 0 (fun _ => true) true m 23 (List.take (Try.prog.cellsOf 23) (List.drop 0 cs)) = xs[0]? := hf 0 _ rfl
  rw [Try.cellsVecs, List.getElem?_eq_getElem (by omega)] at h0
  obtain ⟨u, hu, hu'⟩ := part_of (cs := cs) (o := 0) (by omega)
  rw [hu'] at h0
  obtain ⟨a, l, c, rfl, q1, q0, q2⟩ := open_vecs h0
  obtain ⟨n, hn, bn⟩ := open_int (o := 1) (hf 1 _ rfl) (by simp [hx])
  have h2 : DataW.trod enc Try.prog W 0 (fun _ => true) true m 25 (List.take (Try.prog.cellsOf 25) (List.drop 2 cs)) = xs[2]? := hf 2 _ rfl
  rw [Try.cellsVec, List.getElem?_eq_getElem (by omega)] at h2
  obtain ⟨v, v0, v1, v2⟩ := open_vec _ _ _ h2
  have t3 : ∀ j, j < 3 → (List.take 3 (List.drop 2 cs))[j]? = cs[2 + j]? := fun j hj => by rw [List.getElem?_take_of_lt hj, List.getElem?_drop]
  refine ⟨⟨l, n, v⟩, a, c, hu, hn, ⟨?_, ?_, ?_⟩, q2, q0, q1, bn⟩
  · rw [show 2 = 2 + 0 from rfl, ← t3 0 (by omega)]; exact v0
  · rw [show 3 = 2 + 1 from rfl, ← t3 1 (by omega)]; exact v1
  · rw [show 4 = 2 + 2 from rfl, ← t3 2 (by omega)]; exact v2
theorem open_asks {fuel : Nat} {v : Value} {x : DataW H × List MemPlace} (h : DataW.trod enc Try.prog W 0 (fun _ => true) true fuel 22 [v] = some x) :
    ∃ (a : Option Addr) (L : List Ask) (c : Nat), v = .slice a L.length c ∧ L.length ≤ maxLen ∧ AL W a L := by
  obtain ⟨a, l, c, h1, h2, _, h3⟩ := @open_rows H enc W Ask ⟨⟨[], 0, nought⟩⟩ _ _ 5 (askP W) Try.underlying22 Try.cellsAsk (by omega) (fun f cs x h _ => open_ask f cs x h) _ _ _ h
  refine ⟨a, l, c, h1, h2, fun i x hi => ?_⟩
  obtain ⟨hlt, he⟩ := List.getElem?_eq_some_iff.1 hi
  obtain ⟨b, off, cs, e, ⟨da, dc, p0, p1, ⟨p2, p3, p4⟩, p5, p6, p7, p8⟩, _, hc⟩ := h3 i hlt
  have e2 : l.getD i (@default Ask ⟨⟨[], 0, nought⟩⟩) = x := by simp [hlt, he]
  rw [e2] at p0 p1 p2 p3 p4 p5 p6 p7 p8
  refine ⟨b, off, da, dc, e, ⟨?_, (hc 1 (by omega)).trans p1, (hc 2 (by omega)).trans p2, (hc 3 (by omega)).trans p3, (hc 4 (by omega)).trans p4⟩, p5, p6, p7, p8⟩
  have := (hc 0 (by omega)).trans p0
  rwa [Nat.add_zero] at this
end
end Go.Proofs.Ytfooakbcgjebfaa
