/- How a list of numbers that came in is read, and how a law over one is lifted to its row. -/
import Derived.Test.YtleiiiagdkcckaaRows
import Derived.Test.YtleiiiagdkcckaaFb2
import Derived.ProofKit
import Derived.OpenShut
import Derived.ChangeOld
import Derived.Deep.Slices
namespace Go.Proofs.Ytleiiiagdkcckaa
open Go.ChangeShapes Go.WideShapes Go.ChangeAt Go.RowKit Go.Deep

theorem Try.own : ownKnob Try.prog.godebug = none := by kernel_rfl
theorem Try.laidOut : laidOutB Try.prog = true := by kernel_rfl
theorem Try.cellsI64 : Try.prog.cellsOf 2 = 1 := by kernel_rfl
theorem Try.cellsBool : Try.prog.cellsOf 4 = 1 := by kernel_rfl
theorem Try.cellsFall : Try.prog.cellsOf 24 = 3 := by kernel_rfl
theorem Try.cellsAsk : Try.prog.cellsOf 26 = 5 := by kernel_rfl
def numAt (w : World) (a : Addr) : Int := match w.cell? a with | some (.int _ n) => n | _ => 0

theorem add_plain (b o n : Nat) : (⟨b, o, none⟩ : Addr).add n = ⟨b, o + n, none⟩ := by
  unfold Addr.add
  split
  · subst_vars; rfl
  · rfl

theorem i64_bounds {n : Int} (h : (Lit.int .i64 n).wf = true) : -9223372036854775808 ≤ n ∧ n ≤ 9223372036854775807 := by
  have := bounds_i64 h
  omega
/-- what is read of type t has n numbers -/
def Nums (t : TypeId) (n : Nat) : Prop := ∀ (H : Type) (enc : TypeId × Value → H) (w : World) (base : Nat) (spare : Nat → Bool) (held : Bool) (fuel : Nat) (cs : List Value) (x : DataW H × List MemPlace),
  DataW.trod enc Try.prog w base spare held fuel t cs = some x → ∀ j, j < n → ∃ m : Int, cs[j]? = some (.int .i64 m) ∧ -9223372036854775808 ≤ m ∧ m ≤ 9223372036854775807
theorem nums_i64 : Nums 2 1 := by
  intro H enc w base spare held fuel cs x h j hj
  obtain rfl : j = 0 := by omega
  obtain ⟨n, hn, _, hw⟩ := DataW.trod_int Try.underlying2 h
  exact ⟨n, by rw [hn]; rfl, i64_bounds hw⟩
theorem nums_part {cs : List Value} {o l j : Nat} (h : ∃ m : Int, (List.take l (List.drop o cs))[j]? = some (.int .i64 m) ∧ -9223372036854775808 ≤ m ∧ m ≤ 9223372036854775807) (hj : j < l) : ∃ m : Int, cs[o + j]? = some (.int .i64 m) ∧ -9223372036854775808 ≤ m ∧ m ≤ 9223372036854775807 := by
  obtain ⟨m, hm, hb⟩ := h
  refine ⟨m, ?_, hb⟩
  rw [List.getElem?_take_of_lt hj, List.getElem?_drop] at hm
  exact hm
/-- what is read of type t has n cells of kinds k -/
def Mix (t : TypeId) (n : Nat) (k : Nat → Bool) : Prop := ∀ (H : Type) (enc : TypeId × Value → H) (w : World) (base : Nat) (spare : Nat → Bool) (held : Bool) (fuel : Nat) (cs : List Value) (x : DataW H × List MemPlace),
  DataW.trod enc Try.prog w base spare held fuel t cs = some x → ∀ j, j < n → ∃ v, cs[j]? = some v ∧ kd (k j) v
theorem mix_nums {t : TypeId} {n : Nat} (h : Nums t n) : Mix t n (fun _ => false) := by
  intro H enc w base spare held fuel cs x hx j hj
  obtain ⟨m, hm, hb⟩ := h H enc w base spare held fuel cs x hx j hj
  exact ⟨_, hm, by unfold kd; rw [if_neg (by simp)]; exact ⟨m, rfl, hb⟩⟩
theorem mix_part {cs : List Value} {o l j : Nat} {b : Bool} (h : ∃ v, (List.take l (List.drop o cs))[j]? = some v ∧ kd b v) (hj : j < l) : ∃ v, cs[o + j]? = some v ∧ kd b v := by
  obtain ⟨m, hm, hb⟩ := h
  refine ⟨m, ?_, hb⟩
  rw [List.getElem?_take_of_lt hj, List.getElem?_drop] at hm
  exact hm
theorem mix_bool : Mix 4 1 (fun _ => true) := by
  intro H enc w base spare held fuel cs x h j hj
  obtain rfl : j = 0 := by omega
  obtain ⟨n, hn, _⟩ := DataW.trod_bool Try.underlying4 h
  exact ⟨_, by rw [hn]; rfl, by unfold kd; rw [if_pos rfl]; exact ⟨n, rfl⟩⟩
set_option maxRecDepth 20000 in
theorem mix_fall : Mix 24 3 (fun j => j == 0 || j == 1) := by
  intro H enc w base spare held fuel cs x h j hj
  obtain ⟨xs, m, rfl, rfl, hlen, hxs, hf⟩ := DataW.trod_struct Try.underlying24 h
  have hx : xs.length = 3 := hxs
  have key : ∀ (i o n t : Nat) (kk : Nat → Bool) (f : Field), DataW.trod enc Try.prog w base spare held m f.type (List.take (Try.prog.cellsOf f.type) (List.drop f.offset cs)) = xs[i]? → i < 3 → f.type = t → f.offset = o → Try.prog.cellsOf t = n → Mix t n kk → ∀ j, j < n → ∃ v, cs[o + j]? = some v ∧ kd (kk j) v := by
    intro i o n t kk f h3 hi h1 h2 hn hN j hj
    rw [h1, h2, hn, List.getElem?_eq_getElem (by omega : i < xs.length)] at h3
    exact mix_part (hN _ _ _ _ _ _ _ _ _ h3 j hj) hj
  have k0 := key 0 0 1 4 _ _ (hf 0 _ rfl) (by omega) rfl rfl Try.cellsBool mix_bool
  have k1 := key 1 1 1 4 _ _ (hf 1 _ rfl) (by omega) rfl rfl Try.cellsBool mix_bool
  have k2 := key 2 2 1 2 _ _ (hf 2 _ rfl) (by omega) rfl rfl Try.cellsI64 (mix_nums nums_i64)
  have hj2 : (∃ i, j = 0 + i ∧ i < 1) ∨ (∃ i, j = 1 + i ∧ i < 1) ∨ (∃ i, j = 2 + i ∧ i < 1) := by
    by_cases c0 : j < 1
    · exact .inl ⟨j - 0, by omega, by omega⟩
    by_cases c1 : j < 2
    · exact .inr (.inl ⟨j - 1, by omega, by omega⟩)
    exact .inr (.inr (⟨j - 2, by omega, by omega⟩))
  rcases hj2 with ⟨i, rfl, hi⟩ | ⟨i, rfl, hi⟩ | ⟨i, rfl, hi⟩
  · obtain ⟨v, hv, hkd⟩ := k0 i hi
    refine ⟨v, hv, ?_⟩
    obtain rfl : i = 0 := by omega
    exact hkd
  · obtain ⟨v, hv, hkd⟩ := k1 i hi
    refine ⟨v, hv, ?_⟩
    obtain rfl : i = 0 := by omega
    exact hkd
  · obtain ⟨v, hv, hkd⟩ := k2 i hi
    refine ⟨v, hv, ?_⟩
    obtain rfl : i = 0 := by omega
    exact hkd
set_option maxRecDepth 20000 in
theorem mix_ask : Mix 26 5 (fun j => j == 0 || j == 1) := by
  intro H enc w base spare held fuel cs x h j hj
  obtain ⟨xs, m, rfl, rfl, hlen, hxs, hf⟩ := DataW.trod_struct Try.underlying26 h
  have hx : xs.length = 3 := hxs
  have key : ∀ (i o n t : Nat) (kk : Nat → Bool) (f : Field), DataW.trod enc Try.prog w base spare held m f.type (List.take (Try.prog.cellsOf f.type) (List.drop f.offset cs)) = xs[i]? → i < 3 → f.type = t → f.offset = o → Try.prog.cellsOf t = n → Mix t n kk → ∀ j, j < n → ∃ v, cs[o + j]? = some v ∧ kd (kk j) v := by
    intro i o n t kk f h3 hi h1 h2 hn hN j hj
    rw [h1, h2, hn, List.getElem?_eq_getElem (by omega : i < xs.length)] at h3
    exact mix_part (hN _ _ _ _ _ _ _ _ _ h3 j hj) hj
  have k0 := key 0 0 3 24 _ _ (hf 0 _ rfl) (by omega) rfl rfl Try.cellsFall mix_fall
  have k1 := key 1 3 1 2 _ _ (hf 1 _ rfl) (by omega) rfl rfl Try.cellsI64 (mix_nums nums_i64)
  have k2 := key 2 4 1 2 _ _ (hf 2 _ rfl) (by omega) rfl rfl Try.cellsI64 (mix_nums nums_i64)
  have hj2 : (∃ i, j = 0 + i ∧ i < 3) ∨ (∃ i, j = 3 + i ∧ i < 1) ∨ (∃ i, j = 4 + i ∧ i < 1) := by
    by_cases c0 : j < 3
    · exact .inl ⟨j - 0, by omega, by omega⟩
    by_cases c1 : j < 4
    · exact .inr (.inl ⟨j - 3, by omega, by omega⟩)
    exact .inr (.inr (⟨j - 4, by omega, by omega⟩))
  rcases hj2 with ⟨i, rfl, hi⟩ | ⟨i, rfl, hi⟩ | ⟨i, rfl, hi⟩
  · obtain ⟨v, hv, hkd⟩ := k0 i hi
    refine ⟨v, hv, ?_⟩
    obtain rfl | rfl | rfl : i = 0 ∨ i = 1 ∨ i = 2 := by clear hv hkd h hf key k0 k1 k2; omega
    all_goals exact hkd
  · obtain ⟨v, hv, hkd⟩ := k1 i hi
    refine ⟨v, hv, ?_⟩
    obtain rfl : i = 0 := by omega
    exact hkd
  · obtain ⟨v, hv, hkd⟩ := k2 i hi
    refine ⟨v, hv, ?_⟩
    obtain rfl : i = 0 := by omega
    exact hkd
def cellAt (w : World) (a : Addr) : Value := (w.cell? a).getD (.bool false)
theorem open_ml {H : Type} {enc : TypeId × Value → H} {W : World} {t et : TypeId} {q : Nat} {k : Nat → Bool} (hu : Try.prog.underlying t = some (.slice et)) (hq : Try.prog.cellsOf et = q) (hN : Mix et q k) (h1 : 0 < q) {a : Option Addr} {len cap : Nat} {d : DataW H} {p : List MemPlace}
    (h : DataW.Trod enc Try.prog W 0 (fun _ => true) true t (.slice a len cap) d p) : len = 0 ∨ ∃ b off C, a = some ⟨b, off, none⟩ ∧ len ≤ maxLen ∧ ML q k W b off len C := by
  by_cases h0 : len = 0
  · exact .inl h0
  right
  obtain ⟨fuel, hf⟩ := h
  rcases open_slice hu hf with ⟨hcs, _⟩ | ⟨x, l, c, m, n, D, Pl, hcs, _, hl, hm, hmm, _, hel⟩
  · simp [Value.cells] at hcs
    omega
  · simp [Value.cells] at hcs
    obtain ⟨rfl, rfl, rfl⟩ := hcs
    simp only [if_true] at hmm
    obtain ⟨b, off, spot⟩ := x
    rw [hq] at hel
    have hcell : ∀ i, i < len → ∀ j, j < q → ∃ v, W.cell? (((⟨b, off, spot⟩ : Addr).add (i * q)).add j) = some v ∧ kd (k j) v := by
      intro i hi j hj
      obtain ⟨cs', h1, h2⟩ := hel i (by omega)
      obtain ⟨_, _, h3⟩ := World.cells?_some h1
      obtain ⟨n, hn, hb⟩ := hN _ _ _ _ _ _ _ _ _ h2 j hj
      refine ⟨n, ?_, hb⟩
      have h4 := h3 j hj
      rw [hn] at h4
      exact h4
    have hspot : spot = none := by
      obtain ⟨n, hn, _⟩ := hcell 0 (by omega) 0 h1
      simpa [Addr.add] using World.cell?_spot hn
    subst hspot
    refine ⟨b, off, fun i j => cellAt W ⟨b, off + i * q + j, none⟩, rfl, by omega, ?_⟩
    intro i hi j hj
    obtain ⟨n, hn0, hb⟩ := hcell i hi j hj
    have hn : W.cell? ⟨b, off + i * q + j, none⟩ = some n := by rw [add_plain, add_plain] at hn0; exact hn0
    have : cellAt W ⟨b, off + i * q + j, none⟩ = n := by unfold cellAt; rw [hn]; rfl
    simp only [this]
    exact ⟨hn, hb⟩
end Go.Proofs.Ytleiiiagdkcckaa
