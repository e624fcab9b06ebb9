/- How a script that came in is read. -/
import Derived.Test.YtehphgpkhfokhaaRows
import Derived.Test.YtehphgpkhfokhaaL7
import Derived.ProofKit
import Derived.OpenShut
import Derived.ChangeOld
import Derived.Deep.Slices
namespace Go.Proofs.Ytehphgpkhfokhaa
open Go.ChangeShapes Go.WideShapes Go.ChangeAt Go.RowKit Go.Deep

theorem Try.own : ownKnob Try.prog.godebug = none := by kernel_rfl
theorem Try.laidOut : laidOutB Try.prog = true := by kernel_rfl
theorem Try.cellsAct : Try.prog.cellsOf 36 = 2 := by kernel_rfl
theorem Try.cellsTurn : Try.prog.cellsOf 45 = 2 := by kernel_rfl
theorem Try.cellsScript : Try.prog.cellsOf 25 = 3 := by kernel_rfl
theorem Try.cellsInt : Try.prog.cellsOf 3 = 1 := by kernel_rfl
theorem Try.cellsInts : Try.prog.cellsOf 40 = 1 := by kernel_rfl
theorem Try.cellsActs : Try.prog.cellsOf 23 = 1 := by kernel_rfl
theorem Try.cellsTurns : Try.prog.cellsOf 22 = 1 := by kernel_rfl

def numAt (w : World) (a : Addr) : Int := match w.cell? a with | some (.int _ n) => n | _ => 0
theorem add_plain (b o n : Nat) : (⟨b, o, none⟩ : Addr).add n = ⟨b, o + n, none⟩ := by
  unfold Addr.add
  split
  · subst_vars; rfl
  · rfl
theorem i64_bounds {n : Int} (h : (Lit.int .i64 n).wf = true) : -9223372036854775808 ≤ n ∧ n ≤ 9223372036854775807 := by
  have := bounds_i64 h
  omega
/-- a list of Turn: what each tells -/
def Trns (w : World) (a : Option Addr) (len : Nat) (U : Nat → Value) (L : Nat → List Int) (G : Nat → Int) : Prop :=
  ∀ i, i < len → ∃ b off, a = some ⟨b, off, none⟩ ∧ w.cell? ⟨b, off + i * 2, none⟩ = some (U i) ∧ w.cell? ⟨b, off + i * 2 + 1, none⟩ = some (.int .i64 (G i)) ∧ RdI w (U i) (L i) ∧ (L i).length ≤ maxLen ∧ -9223372036854775808 ≤ G i ∧ G i ≤ 9223372036854775807
section
variable {H : Type} {enc : TypeId × Value → H} {W : World}
theorem part_one {cs : List Value} {o : Nat} {v : Value} (h : List.take 1 (List.drop o cs) = [v]) : cs[o]? = some v := by
  have := congrArg (fun l => l[0]?) h
  simp only [List.getElem?_cons_zero] at this
  rw [List.getElem?_take_of_lt (by omega), List.getElem?_drop] at this
  simpa using this
theorem part_of {cs : List Value} {o : Nat} (h : o < cs.length) : ∃ v, cs[o]? = some v ∧ List.take 1 (List.drop o cs) = [v] := by
  refine ⟨cs[o], by simp [h], ?_⟩
  rw [List.drop_eq_getElem_cons h, List.take_succ_cons, List.take_zero]
theorem open_act {base : Nat} {spare : Nat → Bool} {held : Bool} {fuel : Nat} {cs : List Value} {x : DataW H × List MemPlace} (h : DataW.trod enc Try.prog W base spare held fuel 36 cs = some x) :
    ∃ D N, cs[0]? = some (.int .i64 D) ∧ cs[1]? = some (.int .i64 N) ∧ (-9223372036854775808 ≤ D ∧ D ≤ 9223372036854775807) ∧ -9223372036854775808 ≤ N ∧ N ≤ 9223372036854775807 := by
  obtain ⟨xs, m, rfl, rfl, hlen, hxs, hf⟩ := DataW.trod_struct Try.underlying36 h
  have hx : xs.length = 2 := hxs
  have h0 : DataW.trod enc Try.prog W base spare held m 3 (List.take (Try.prog.cellsOf 3) (List.drop 0 cs)) = xs[0]? := hf 0 _ rfl
  have h1 : DataW.trod enc Try.prog W base spare held m 3 (List.take (Try.prog.cellsOf 3) (List.drop 1 cs)) = xs[1]? := hf 1 _ rfl
  rw [Try.cellsInt, List.getElem?_eq_getElem (by omega)] at h0 h1
  obtain ⟨D, hD, _, wD⟩ := DataW.trod_int Try.underlying3 h0
  obtain ⟨N, hN, _, wN⟩ := DataW.trod_int Try.underlying3 h1
  exact ⟨D, N, part_one hD, part_one hN, i64_bounds wD, i64_bounds wN⟩
theorem open_acts {fuel : Nat} {v : Value} {x : DataW H × List MemPlace} (h : DataW.trod enc Try.prog W 0 (fun _ => true) true fuel 23 [v] = some x) :
    ∃ a len cap D N, v = .slice a len cap ∧ len ≤ maxLen ∧ Acts W a len D N := by
  rcases open_slice Try.underlying23 h with ⟨hcs, _⟩ | ⟨x, len, c, m, n, D, Pl, hcs, _, hl, hm, hmm, _, hel⟩
  · simp only [List.cons.injEq, and_true] at hcs
    exact ⟨none, 0, 0, fun _ => 0, fun _ => 0, hcs, Nat.zero_le _, fun i hi => absurd hi (Nat.not_lt_zero _)⟩
  · simp only [List.cons.injEq, and_true] at hcs
    simp only [if_true] at hmm
    obtain ⟨b, off, spot⟩ := x
    rw [Try.cellsAct] at hel
    have hcell : ∀ i, i < len → ∃ D N, W.cell? (((⟨b, off, spot⟩ : Addr).add (i * 2)).add 0) = some (.int .i64 D) ∧ W.cell? (((⟨b, off, spot⟩ : Addr).add (i * 2)).add 1) = some (.int .i64 N) ∧ (-9223372036854775808 ≤ D ∧ D ≤ 9223372036854775807) ∧ -9223372036854775808 ≤ N ∧ N ≤ 9223372036854775807 := by
      intro i hi
      obtain ⟨cs', h1, h2⟩ := hel i (by omega)
      obtain ⟨_, _, h3⟩ := World.cells?_some h1
      obtain ⟨D, N, hD, hN, hb⟩ := open_act h2
      refine ⟨D, N, ?_, ?_, hb⟩
      · have h4 := h3 0 (by omega); rw [hD] at h4; exact h4
      · have h4 := h3 1 (by omega); rw [hN] at h4; exact h4
    by_cases h0 : len = 0
    · exact ⟨_, len, c, fun _ => 0, fun _ => 0, hcs, by omega, fun i hi => by omega⟩
    have hspot : spot = none := by
      obtain ⟨D, N, hD, _⟩ := hcell 0 (by omega)
      simpa [Addr.add] using World.cell?_spot hD
    subst hspot
    refine ⟨_, len, c, fun i => numAt W ⟨b, off + i * 2, none⟩, fun i => numAt W ⟨b, off + i * 2 + 1, none⟩, hcs, by omega, ?_⟩
    intro i hi
    obtain ⟨D, N, hD, hN, hb⟩ := hcell i hi
    simp only [add_plain, Nat.add_zero] at hD hN
    refine ⟨b, off, rfl, ?_⟩
    have e1 : numAt W ⟨b, off + i * 2, none⟩ = D := by unfold numAt; rw [hD]
    have e2 : numAt W ⟨b, off + i * 2 + 1, none⟩ = N := by unfold numAt; rw [hN]
    simp only [e1, e2]
    exact ⟨hD, hN, hb⟩
theorem open_ints {fuel : Nat} {v : Value} {x : DataW H × List MemPlace} (h : DataW.trod enc Try.prog W 0 (fun _ => true) true fuel 40 [v] = some x) :
    ∃ l : List Int, RdI W v l ∧ l.length ≤ maxLen := by
  rcases open_slice Try.underlying40 h with ⟨hcs, _⟩ | ⟨x, len, c, m, n, D, Pl, hcs, _, hl, hm, hmm, _, hel⟩
  · simp only [List.cons.injEq, and_true] at hcs
    exact ⟨[], ⟨none, 0, hcs, fun j hj => by simp at hj⟩, Nat.zero_le _⟩
  · simp only [List.cons.injEq, and_true] at hcs
    simp only [if_true] at hmm
    obtain ⟨b, off, spot⟩ := x
    rw [Try.cellsInt] at hel
    have hcell : ∀ i, i < len → ∃ D, W.cell? (((⟨b, off, spot⟩ : Addr).add (i * 1)).add 0) = some (.int .i64 D) := by
      intro i hi
      obtain ⟨cs', h1, h2⟩ := hel i (by omega)
      obtain ⟨_, _, h3⟩ := World.cells?_some h1
      obtain ⟨D, hD, _, _⟩ := DataW.trod_int Try.underlying3 h2
      refine ⟨D, ?_⟩
      have h4 := h3 0 (by omega)
      rw [hD] at h4
      exact h4
    by_cases h0 : len = 0
    · subst h0
      exact ⟨[], ⟨_, c, hcs, fun j hj => by simp at hj⟩, Nat.zero_le _⟩
    have hspot : spot = none := by
      obtain ⟨D, hD⟩ := hcell 0 (by omega)
      simpa [Addr.add] using World.cell?_spot hD
    subst hspot
    refine ⟨(List.range len).map (fun i => numAt W ⟨b, off + i, none⟩), ⟨_, c, by simpa using hcs, fun j hj => ?_⟩, by simp; omega⟩
    have hj' : j < len := by simpa using hj
    obtain ⟨D, hD⟩ := hcell j hj'
    simp only [add_plain, Nat.add_zero, Nat.mul_one] at hD
    refine ⟨b, off, rfl, ?_⟩
    have e1 : numAt W ⟨b, off + j, none⟩ = D := by unfold numAt; rw [hD]
    have e2 : gi ((List.range len).map (fun i => numAt W ⟨b, off + i, none⟩)) j = D := by
      unfold gi
      simp [hj', e1]
    rw [e2]; exact hD
theorem open_turn {fuel : Nat} {cs : List Value} {x : DataW H × List MemPlace} (h : DataW.trod enc Try.prog W 0 (fun _ => true) true fuel 45 cs = some x) :
    ∃ U L G, cs[0]? = some U ∧ cs[1]? = some (.int .i64 G) ∧ RdI W U L ∧ L.length ≤ maxLen ∧ -9223372036854775808 ≤ G ∧ G ≤ 9223372036854775807 := by
  obtain ⟨xs, m, rfl, rfl, hlen, hxs, hf⟩ := DataW.trod_struct Try.underlying45 h
  have hx : xs.length = 2 := hxs
  have h0 : DataW.trod enc Try.prog W 0 (fun _ => true) true m 40 (List.take (Try.prog.cellsOf 40) (List.drop 0 cs)) = xs[0]? := hf 0 _ rfl
  have h1 : DataW.trod enc Try.prog W 0 (fun _ => true) true m 3 (List.take (Try.prog.cellsOf 3) (List.drop 1 cs)) = xs[1]? := hf 1 _ rfl
  rw [Try.cellsInt, List.getElem?_eq_getElem (by omega)] at h1
  rw [Try.cellsInts, List.getElem?_eq_getElem (by omega)] at h0
  have hcl : cs.length = 2 := hlen.trans Try.cellsTurn
  obtain ⟨U, hU, hU'⟩ := part_of (cs := cs) (o := 0) (by omega)
  rw [hU'] at h0
  obtain ⟨G, hG, _, wG⟩ := DataW.trod_int Try.underlying3 h1
  obtain ⟨l, hl, hl'⟩ := open_ints h0
  exact ⟨U, l, G, hU, part_one hG, hl, hl', i64_bounds wG⟩
theorem open_turns {fuel : Nat} {v : Value} {x : DataW H × List MemPlace} (h : DataW.trod enc Try.prog W 0 (fun _ => true) true fuel 22 [v] = some x) :
    ∃ a len cap U L G, v = .slice a len cap ∧ len ≤ maxLen ∧ Trns W a len U L G := by
  rcases open_slice Try.underlying22 h with ⟨hcs, _⟩ | ⟨x, len, c, m, n, D, Pl, hcs, _, hl, hm, hmm, _, hel⟩
  · simp only [List.cons.injEq, and_true] at hcs
    exact ⟨none, 0, 0, fun _ => .nilFunc, fun _ => [], fun _ => 0, hcs, Nat.zero_le _, fun i hi => absurd hi (Nat.not_lt_zero _)⟩
  · simp only [List.cons.injEq, and_true] at hcs
    simp only [if_true] at hmm
    obtain ⟨b, off, spot⟩ := x
    rw [Try.cellsTurn] at hel
    have hcell : ∀ i, ∃ y : Value × List Int × Int, i < len → W.cell? (((⟨b, off, spot⟩ : Addr).add (i * 2)).add 0) = some y.1 ∧ W.cell? (((⟨b, off, spot⟩ : Addr).add (i * 2)).add 1) = some (.int .i64 y.2.2) ∧ RdI W y.1 y.2.1 ∧ y.2.1.length ≤ maxLen ∧ -9223372036854775808 ≤ y.2.2 ∧ y.2.2 ≤ 9223372036854775807 := by
      intro i
      by_cases hi : i < len
      · obtain ⟨cs', h1, h2⟩ := hel i (by omega)
        obtain ⟨_, _, h3⟩ := World.cells?_some h1
        obtain ⟨U, L, G, hU, hG, hb⟩ := open_turn h2
        refine ⟨(U, L, G), fun _ => ⟨?_, ?_, hb⟩⟩
        · have h4 := h3 0 (by omega); rw [hU] at h4; exact h4
        · have h4 := h3 1 (by omega); rw [hG] at h4; exact h4
      · exact ⟨(.nilFunc, [], 0), fun h => absurd h hi⟩
    obtain ⟨y, hy⟩ := Classical.axiomOfChoice hcell
    by_cases h0 : len = 0
    · exact ⟨_, len, c, fun _ => .nilFunc, fun _ => [], fun _ => 0, hcs, by omega, fun i hi => by omega⟩
    have hspot : spot = none := by
      obtain ⟨hD, _⟩ := hy 0 (by omega)
      simpa [Addr.add] using World.cell?_spot hD
    subst hspot
    refine ⟨_, len, c, fun i => (y i).1, fun i => (y i).2.1, fun i => (y i).2.2, hcs, by omega, ?_⟩
    intro i hi
    obtain ⟨hD, hN, hb⟩ := hy i hi
    simp only [add_plain, Nat.add_zero] at hD hN
    exact ⟨b, off, rfl, hD, hN, hb⟩
/-- a script: how many tasks, what runs tell, what is done -/
theorem open_script {v : Value} {t : TypeId} (hv : Value.okWide Try.prog W .any t 25 v) {x : DataW H × List MemPlace} (h0 : ∃ fuel, DataW.trod enc Try.prog W 0 (fun _ => true) true fuel 25 v.cells.toList = some x) :
    ∃ n at_ lt ct U L G al ll cl D N, v = .agg #[.int .i64 n, .slice at_ lt ct, .slice al ll cl] ∧ (-9223372036854775808 ≤ n ∧ n ≤ 9223372036854775807) ∧ lt ≤ maxLen ∧ Trns W at_ lt U L G ∧ ll ≤ maxLen ∧ Acts W al ll D N := by
  obtain ⟨cs, rfl, hcs⟩ := okWide_struct Try.underlying25 hv
  rw [Try.cellsScript] at hcs
  obtain ⟨fuel, h⟩ := h0
  simp only [Value.cells] at h
  obtain ⟨xs, m, rfl, rfl, hlen, hxs, hf⟩ := DataW.trod_struct Try.underlying25 h
  have hx : xs.length = 3 := hxs
  have h0 : DataW.trod enc Try.prog W 0 (fun _ => true) true m 3 (List.take (Try.prog.cellsOf 3) (List.drop 0 cs.toList)) = xs[0]? := hf 0 _ rfl
  have h1 : DataW.trod enc Try.prog W 0 (fun _ => true) true m 22 (List.take (Try.prog.cellsOf 22) (List.drop 1 cs.toList)) = xs[1]? := hf 1 _ rfl
  have h2 : DataW.trod enc Try.prog W 0 (fun _ => true) true m 23 (List.take (Try.prog.cellsOf 23) (List.drop 2 cs.toList)) = xs[2]? := hf 2 _ rfl
  rw [Try.cellsInt, List.getElem?_eq_getElem (by omega)] at h0
  rw [Try.cellsTurns, List.getElem?_eq_getElem (by omega)] at h1
  rw [Try.cellsActs, List.getElem?_eq_getElem (by omega)] at h2
  obtain ⟨n, hn, _, wn⟩ := DataW.trod_int Try.underlying3 h0
  have hl3 : cs.toList.length = 3 := by simpa using hcs
  obtain ⟨u1, hu1, hu1'⟩ := part_of (cs := cs.toList) (o := 1) (by omega)
  obtain ⟨u2, hu2, hu2'⟩ := part_of (cs := cs.toList) (o := 2) (by omega)
  rw [hu1'] at h1
  rw [hu2'] at h2
  obtain ⟨at_, lt, ct, U, L, G, rfl, q1, q2⟩ := open_turns h1
  obtain ⟨al, ll, cl, D, N, rfl, q3, q4⟩ := open_acts h2
  have hn0 := part_one hn
  refine ⟨n, at_, lt, ct, U, L, G, al, ll, cl, D, N, ?_, i64_bounds wn, q1, q2, q3, q4⟩
  congr 1
  apply Array.ext'
  apply List.ext_getElem?
  intro i
  match i with
  | 0 => simpa using hn0
  | 1 => simpa using hu1
  | 2 => simpa using hu2
  | i + 3 => rw [List.getElem?_eq_none (by omega), List.getElem?_eq_none (by simp)]
end
end Go.Proofs.Ytehphgpkhfokhaa
