/- How a script that came in is read. -/
import Derived.Test.YtblpdnpfhjnbgaaRows
import Derived.Test.YtblpdnpfhjnbgaaL5
import Derived.ProofKit
import Derived.OpenShut
import Derived.ChangeOld
import Derived.Deep.Slices
namespace Go.Proofs.Ytblpdnpfhjnbgaa
open Go.ChangeShapes Go.WideShapes Go.ChangeAt Go.RowKit Go.Deep

theorem Try.own : ownKnob Try.prog.godebug = none := by kernel_rfl
theorem Try.laidOut : laidOutB Try.prog = true := by kernel_rfl
theorem Try.cellsScript : Try.prog.cellsOf 24 = 2 := by kernel_rfl
theorem Try.cellsAct : Try.prog.cellsOf 35 = 3 := by kernel_rfl
theorem Try.cellsInt : Try.prog.cellsOf 3 = 1 := by kernel_rfl
theorem Try.cellsStr : Try.prog.cellsOf 9 = 1 := by kernel_rfl
theorem Try.cellsList : Try.prog.cellsOf 22 = 1 := by kernel_rfl

def numAt (w : World) (a : Addr) : Int := match w.cell? a with | some (.int _ n) => n | _ => 0
def strAt (w : World) (a : Addr) : ByteArray := match w.cell? a with | some (.string n) => n | _ => ⟨#[]⟩
theorem add_plain (b o n : Nat) : (⟨b, o, none⟩ : Addr).add n = ⟨b, o + n, none⟩ := by
  unfold Addr.add
  split
  · subst_vars; rfl
  · rfl
theorem i64_bounds {n : Int} (h : (Lit.int .i64 n).wf = true) : -9223372036854775808 ≤ n ∧ n ≤ 9223372036854775807 := by
  have := bounds_i64 h
  omega
section
variable {H : Type} {enc : TypeId × Value → H} {W : World}
theorem part_one {cs : List Value} {o : Nat} {v : Value} (h : List.take 1 (List.drop o cs) = [v]) : cs[o]? = some v := by
  have := congrArg (fun l => l[0]?) h
  simp only [List.getElem?_cons_zero] at this
  rw [List.getElem?_take_of_lt (by omega), List.getElem?_drop] at this
  simpa using this
theorem open_act {base : Nat} {spare : Nat → Bool} {held : Bool} {fuel : Nat} {cs : List Value} {x : DataW H × List MemPlace} (h : DataW.trod enc Try.prog W base spare held fuel 35 cs = some x) :
    ∃ D N S, cs[0]? = some (.int .i64 D) ∧ cs[1]? = some (.int .i64 N) ∧ cs[2]? = some (.string S) ∧ (-9223372036854775808 ≤ D ∧ D ≤ 9223372036854775807) ∧ -9223372036854775808 ≤ N ∧ N ≤ 9223372036854775807 := by
  obtain ⟨xs, m, rfl, rfl, hlen, hxs, hf⟩ := DataW.trod_struct Try.underlying35 h
  have hx : xs.length = 3 := hxs
  have h0 : DataW.trod enc Try.prog W base spare held m 3 (List.take (Try.prog.cellsOf 3) (List.drop 0 cs)) = xs[0]? := hf 0 _ rfl
  have h1 : DataW.trod enc Try.prog W base spare held m 3 (List.take (Try.prog.cellsOf 3) (List.drop 1 cs)) = xs[1]? := hf 1 _ rfl
  have h2 : DataW.trod enc Try.prog W base spare held m 9 (List.take (Try.prog.cellsOf 9) (List.drop 2 cs)) = xs[2]? := hf 2 _ rfl
  rw [Try.cellsInt, List.getElem?_eq_getElem (by omega)] at h0 h1
  rw [Try.cellsStr, List.getElem?_eq_getElem (by omega)] at h2
  obtain ⟨D, hD, _, wD⟩ := DataW.trod_int Try.underlying3 h0
  obtain ⟨N, hN, _, wN⟩ := DataW.trod_int Try.underlying3 h1
  obtain ⟨S, hS, _, _⟩ := DataW.trod_string Try.underlying9 h2
  exact ⟨D, N, S, part_one hD, part_one hN, part_one hS, i64_bounds wD, i64_bounds wN⟩
theorem open_acts {fuel : Nat} {v : Value} {x : DataW H × List MemPlace} (h : DataW.trod enc Try.prog W 0 (fun _ => true) true fuel 22 [v] = some x) :
    ∃ a len cap D N S, v = .slice a len cap ∧ len ≤ maxLen ∧ Acts W a len D N S := by
  rcases open_slice Try.underlying22 h with ⟨hcs, _⟩ | ⟨x, len, c, m, n, D, Pl, hcs, _, hl, hm, hmm, _, hel⟩
  · simp only [List.cons.injEq, and_true] at hcs
    exact ⟨none, 0, 0, fun _ => 0, fun _ => 0, fun _ => ⟨#[]⟩, hcs, Nat.zero_le _, fun i hi => absurd hi (Nat.not_lt_zero _)⟩
  · simp only [List.cons.injEq, and_true] at hcs
    simp only [if_true] at hmm
    obtain ⟨b, off, spot⟩ := x
    rw [Try.cellsAct] at hel
    have hcell : ∀ i, i < len → ∃ D N S, W.cell? (((⟨b, off, spot⟩ : Addr).add (i * 3)).add 0) = some (.int .i64 D) ∧ W.cell? (((⟨b, off, spot⟩ : Addr).add (i * 3)).add 1) = some (.int .i64 N) ∧ W.cell? (((⟨b, off, spot⟩ : Addr).add (i * 3)).add 2) = some (.string S) ∧ (-9223372036854775808 ≤ D ∧ D ≤ 9223372036854775807) ∧ -9223372036854775808 ≤ N ∧ N ≤ 9223372036854775807 := by
      intro i hi
      obtain ⟨cs', h1, h2⟩ := hel i (by omega)
      obtain ⟨_, _, h3⟩ := World.cells?_some h1
      obtain ⟨D, N, S, hD, hN, hS, hb⟩ := open_act h2
      refine ⟨D, N, S, ?_, ?_, ?_, hb⟩
      · have h4 := h3 0 (by omega); rw [hD] at h4; exact h4
      · have h4 := h3 1 (by omega); rw [hN] at h4; exact h4
      · have h4 := h3 2 (by omega); rw [hS] at h4; exact h4
    by_cases h0 : len = 0
    · exact ⟨_, len, c, fun _ => 0, fun _ => 0, fun _ => ⟨#[]⟩, hcs, by omega, fun i hi => by omega⟩
    have hspot : spot = none := by
      obtain ⟨D, N, S, hD, _⟩ := hcell 0 (by omega)
      simpa [Addr.add] using World.cell?_spot hD
    subst hspot
    refine ⟨_, len, c, fun i => numAt W ⟨b, off + i * 3, none⟩, fun i => numAt W ⟨b, off + i * 3 + 1, none⟩, fun i => strAt W ⟨b, off + i * 3 + 2, none⟩, hcs, by omega, ?_⟩
    intro i hi
    obtain ⟨D, N, S, hD, hN, hS, hb⟩ := hcell i hi
    simp only [add_plain, Nat.add_zero] at hD hN hS
    refine ⟨b, off, rfl, ?_⟩
    have e1 : numAt W ⟨b, off + i * 3, none⟩ = D := by unfold numAt; rw [hD]
    have e2 : numAt W ⟨b, off + i * 3 + 1, none⟩ = N := by unfold numAt; rw [hN]
    have e3 : strAt W ⟨b, off + i * 3 + 2, none⟩ = S := by unfold strAt; rw [hS]
    simp only [e1, e2, e3]
    exact ⟨hD, hN, hS, hb⟩
theorem open_script {v : Value} {d : DataW H} {p : List MemPlace} (h : DataW.Trod enc Try.prog W 0 (fun _ => true) true 24 v d p) (hs : ∃ cs, v = .agg cs ∧ cs.size = Try.prog.cellsOf 24) :
    ∃ C a len cap D N S, v = .agg #[.int .i64 C, .slice a len cap] ∧ (-9223372036854775808 ≤ C ∧ C ≤ 9223372036854775807) ∧ len ≤ maxLen ∧ Acts W a len D N S := by
  obtain ⟨cs, rfl, hsz⟩ := hs
  rw [Try.cellsScript] at hsz
  obtain ⟨fuel, hf⟩ := h
  simp only [Value.cells] at hf
  obtain ⟨xs, m, e1, e2, hlen, hxs, hf⟩ := DataW.trod_struct Try.underlying24 hf
  have hx : xs.length = 2 := hxs
  have h0 : DataW.trod enc Try.prog W 0 (fun _ => true) true m 3 (List.take (Try.prog.cellsOf 3) (List.drop 0 cs.toList)) = xs[0]? := hf 0 _ rfl
  have h1 : DataW.trod enc Try.prog W 0 (fun _ => true) true m 22 (List.take (Try.prog.cellsOf 22) (List.drop 1 cs.toList)) = xs[1]? := hf 1 _ rfl
  rw [Try.cellsInt, List.getElem?_eq_getElem (by omega)] at h0
  rw [Try.cellsList, List.getElem?_eq_getElem (by omega)] at h1
  obtain ⟨C, hC, _, wC⟩ := DataW.trod_int Try.underlying3 h0
  have g0 : cs[0]? = some (.int .i64 C) := by have := part_one hC; simpa using this
  have g1 : ∃ u, List.take 1 (List.drop 1 cs.toList) = [u] ∧ cs[1]? = some u := by
    refine ⟨cs[1], ?_, by simp⟩
    rw [List.drop_eq_getElem_cons (by simpa using (by omega : 1 < cs.size))]
    simp
  obtain ⟨u, hu, g1⟩ := g1
  rw [hu] at h1
  obtain ⟨a, len, cap, D, N, S, rfl, hl, hA⟩ := open_acts h1
  refine ⟨C, a, len, cap, D, N, S, ?_, i64_bounds wC, hl, hA⟩
  congr 1
  apply Array.ext_getElem?
  intro i
  match i with
  | 0 => rw [g0]; rfl
  | 1 => rw [g1]; rfl
  | i + 2 => rw [Array.getElem?_eq_none (by omega), Array.getElem?_eq_none (by simp)]
end
end Go.Proofs.Ytblpdnpfhjnbgaa
