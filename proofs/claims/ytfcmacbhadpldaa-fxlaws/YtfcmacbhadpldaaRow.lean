/- How a list of Two that came in is read, and how a law over one is lifted to its row. -/
import Derived.Test.YtfcmacbhadpldaaRows
import Derived.Test.YtfcmacbhadpldaaTwos
import Derived.ProofKit
import Derived.OpenShut
import Derived.ChangeOld
import Derived.Deep.Slices
namespace Go.Proofs.Ytfcmacbhadpldaa
open Go.ChangeShapes Go.WideShapes Go.ChangeAt Go.RowKit Go.Deep

theorem Try.own : ownKnob Try.prog.godebug = none := by kernel_rfl
theorem Try.laidOut : laidOutB Try.prog = true := by kernel_rfl
theorem Try.cellsTwo : Try.prog.cellsOf 24 = 6 := by kernel_rfl
theorem Try.cellsI64 : Try.prog.cellsOf 2 = 1 := by kernel_rfl

def numAt (w : World) (a : Addr) : Int := match w.cell? a with | some (.int _ n) => n | _ => 0

theorem add_plain (b o n : Nat) : (⟨b, o, none⟩ : Addr).add n = ⟨b, o + n, none⟩ := by
  unfold Addr.add
  split
  · subst_vars; rfl
  · rfl

theorem i64_bounds {n : Int} (h : (Lit.int .i64 n).wf = true) : -9223372036854775808 ≤ n ∧ n ≤ 9223372036854775807 := by
  have := bounds_i64 h
  omega

theorem open_two {H : Type} {enc : TypeId × Value → H} {w : World} {base : Nat} {spare : Nat → Bool} {held : Bool} {fuel : Nat} {cs : List Value} {x : DataW H × List MemPlace}
    (h : DataW.trod enc Try.prog w base spare held fuel 24 cs = some x) (j : Nat) (hj : j < 6) : ∃ n : Int, cs[j]? = some (.int .i64 n) ∧ -9223372036854775808 ≤ n ∧ n ≤ 9223372036854775807 := by
  obtain ⟨xs, m, rfl, rfl, hlen, hxs, hf⟩ := DataW.trod_struct Try.underlying24 h
  rw [Try.cellsTwo] at hlen
  have hx6 : xs.length = 6 := hxs
  have key : ∀ f : Field, f.type = 2 → f.offset = j → DataW.trod enc Try.prog w base spare held m f.type (List.take (Try.prog.cellsOf f.type) (List.drop f.offset cs)) = xs[j]? → ∃ n : Int, cs[j]? = some (.int .i64 n) ∧ -9223372036854775808 ≤ n ∧ n ≤ 9223372036854775807 := by
    intro f h1 h2 h3
    rw [h1, h2, Try.cellsI64] at h3
    rw [List.getElem?_eq_getElem (by omega : j < xs.length)] at h3
    obtain ⟨n, hn, _, hw⟩ := DataW.trod_int Try.underlying2 h3
    refine ⟨n, ?_, i64_bounds hw⟩
    have h4 : (List.take 1 (List.drop j cs))[0]? = some (.int .i64 n) := by rw [hn]; rfl
    rw [List.getElem?_take_of_lt (by omega), List.getElem?_drop] at h4
    exact h4
  match j, hj, key with
  | 0, _, key => exact key _ rfl rfl (hf 0 _ rfl)
  | 1, _, key => exact key _ rfl rfl (hf 1 _ rfl)
  | 2, _, key => exact key _ rfl rfl (hf 2 _ rfl)
  | 3, _, key => exact key _ rfl rfl (hf 3 _ rfl)
  | 4, _, key => exact key _ rfl rfl (hf 4 _ rfl)
  | 5, _, key => exact key _ rfl rfl (hf 5 _ rfl)

theorem open_twos {H : Type} {enc : TypeId × Value → H} {W : World} {a : Option Addr} {len cap : Nat} {d : DataW H} {p : List MemPlace}
    (h : DataW.Trod enc Try.prog W 0 (fun _ => true) true 22 (.slice a len cap) d p) : len = 0 ∨ ∃ b off Z, a = some ⟨b, off, none⟩ ∧ len ≤ maxLen ∧ Twos W b off len Z := by
  by_cases h0 : len = 0
  · exact .inl h0
  right
  obtain ⟨fuel, hf⟩ := h
  rcases open_slice Try.underlying22 hf with ⟨hcs, _⟩ | ⟨x, l, c, m, n, D, Pl, hcs, _, hl, hm, hmm, _, hel⟩
  · simp [Value.cells] at hcs
    omega
  · simp [Value.cells] at hcs
    obtain ⟨rfl, rfl, rfl⟩ := hcs
    simp only [if_true] at hmm
    obtain ⟨b, off, spot⟩ := x
    rw [Try.cellsTwo] at hel
    have hcell : ∀ i, i < len → ∀ j, j < 6 → ∃ n : Int, W.cell? (((⟨b, off, spot⟩ : Addr).add (i * 6)).add j) = some (.int .i64 n) ∧ -9223372036854775808 ≤ n ∧ n ≤ 9223372036854775807 := by
      intro i hi j hj
      obtain ⟨cs', h1, h2⟩ := hel i (by omega)
      obtain ⟨_, _, h3⟩ := World.cells?_some h1
      obtain ⟨n, hn, hb⟩ := open_two h2 j hj
      refine ⟨n, ?_, hb⟩
      have h4 := h3 j hj
      rw [hn] at h4
      exact h4
    have hspot : spot = none := by
      obtain ⟨n, hn, _⟩ := hcell 0 (by omega) 0 (by omega)
      simpa [Addr.add] using World.cell?_spot hn
    subst hspot
    refine ⟨b, off, fun i j => numAt W ⟨b, off + i * 6 + j, none⟩, rfl, by omega, ?_⟩
    intro i hi j hj
    obtain ⟨n, hn0, hb⟩ := hcell i hi j hj
    have hn : W.cell? ⟨b, off + i * 6 + j, none⟩ = some (.int .i64 n) := by rw [add_plain, add_plain] at hn0; exact hn0
    have : numAt W ⟨b, off + i * 6 + j, none⟩ = n := by unfold numAt; rw [hn]
    simp only [this]
    exact ⟨hn, hb⟩
end Go.Proofs.Ytfcmacbhadpldaa
