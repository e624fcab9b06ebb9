/- How a list of numbers that came in is read, and how a law over one is lifted to its row. -/
import Derived.Test.YtoeecldhbabmbaaGreatRows
import Derived.Test.YtoeecldhbabmbaaGreatMg30
import Derived.ProofKit
import Derived.OpenShut
import Derived.ChangeOld
import Derived.Deep.Slices
namespace Go.Proofs.YtoeecldhbabmbaaGreat
open Go.ChangeShapes Go.WideShapes Go.ChangeAt Go.RowKit Go.Deep
theorem Tryz.own : ownKnob Tryz.prog.godebug = none := by kernel_rfl
theorem Tryz.laidOut : laidOutB Tryz.prog = true := by kernel_rfl
theorem Tryz.cellsI64 : Tryz.prog.cellsOf 2 = 1 := by kernel_rfl
theorem Tryz.cellsInt : Tryz.prog.cellsOf 3 = 1 := by kernel_rfl
theorem Tryz.cellsQuat : Tryz.prog.cellsOf 24 = 4 := by kernel_rfl
theorem Tryz.cellsFuse : Tryz.prog.cellsOf 26 = 4 := by kernel_rfl
theorem Tryz.cellsVec : Tryz.prog.cellsOf 28 = 3 := by kernel_rfl
theorem Tryz.cellsAsk : Tryz.prog.cellsOf 30 = 8 := by kernel_rfl
def numAt (w : World) (a : Addr) : Int := match w.cell? a with | some (.int _ n) => n | _ => 0
theorem add_plain (b o n : Nat) : (⟨b, o, none⟩ : Addr).add n = ⟨b, o + n, none⟩ := by
  unfold Addr.add
  split
  · subst_vars; rfl
  · rfl
theorem i64_bounds {n : Int} (h : (Lit.int .i64 n).wf = true) : -9223372036854775808 ≤ n ∧ n ≤ 9223372036854775807 := by
  have := bounds_i64 h
  omega
def Nums (t : TypeId) (n : Nat) : Prop := ∀ (H : Type) (enc : TypeId × Value → H) (w : World) (base : Nat) (spare : Nat → Bool) (held : Bool) (fuel : Nat) (cs : List Value) (x : DataW H × List MemPlace),
  DataW.trod enc Tryz.prog w base spare held fuel t cs = some x → ∀ j, j < n → ∃ m : Int, cs[j]? = some (.int .i64 m) ∧ -9223372036854775808 ≤ m ∧ m ≤ 9223372036854775807
theorem nums_i64 : Nums 2 1 := by
  intro H enc w base spare held fuel cs x h j hj
  obtain rfl : j = 0 := by omega
  obtain ⟨n, hn, _, hw⟩ := DataW.trod_int Tryz.underlying2 h
  exact ⟨n, by rw [hn]; rfl, i64_bounds hw⟩
theorem nums_part {cs : List Value} {o l j : Nat} (h : ∃ m : Int, (List.take l (List.drop o cs))[j]? = some (.int .i64 m) ∧ -9223372036854775808 ≤ m ∧ m ≤ 9223372036854775807) (hj : j < l) : ∃ m : Int, cs[o + j]? = some (.int .i64 m) ∧ -9223372036854775808 ≤ m ∧ m ≤ 9223372036854775807 := by
  obtain ⟨m, hm, hb⟩ := h
  refine ⟨m, ?_, hb⟩
  rw [List.getElem?_take_of_lt hj, List.getElem?_drop] at hm
  exact hm
theorem nums_int : Nums 3 1 := by
  intro H enc w base spare held fuel cs x h j hj
  obtain rfl : j = 0 := by omega
  obtain ⟨n, hn, _, hw⟩ := DataW.trod_int Tryz.underlying3 h
  exact ⟨n, by rw [hn]; rfl, i64_bounds hw⟩
set_option maxRecDepth 20000 in
theorem nums_quat : Nums 24 4 := by
  intro H enc w base spare held fuel cs x h j hj
  obtain ⟨xs, m, rfl, rfl, hlen, hxs, hf⟩ := DataW.trod_struct Tryz.underlying24 h
  have hx : xs.length = 4 := hxs
  have key : ∀ (i o n t : Nat) (f : Field), DataW.trod enc Tryz.prog w base spare held m f.type (List.take (Tryz.prog.cellsOf f.type) (List.drop f.offset cs)) = xs[i]? → i < 4 → f.type = t → f.offset = o → Tryz.prog.cellsOf t = n → Nums t n → ∀ j, j < n → ∃ m : Int, cs[o + j]? = some (.int .i64 m) ∧ -9223372036854775808 ≤ m ∧ m ≤ 9223372036854775807 := by
    intro i o n t f h3 hi h1 h2 hn hN j hj
    rw [h1, h2, hn, List.getElem?_eq_getElem (by omega : i < xs.length)] at h3
    exact nums_part (hN _ _ _ _ _ _ _ _ _ h3 j hj) hj
  have k0 := key 0 0 1 2 _ (hf 0 _ rfl) (by omega) rfl rfl Tryz.cellsI64 nums_i64
  have k1 := key 1 1 1 2 _ (hf 1 _ rfl) (by omega) rfl rfl Tryz.cellsI64 nums_i64
  have k2 := key 2 2 1 2 _ (hf 2 _ rfl) (by omega) rfl rfl Tryz.cellsI64 nums_i64
  have k3 := key 3 3 1 2 _ (hf 3 _ rfl) (by omega) rfl rfl Tryz.cellsI64 nums_i64
  have hj2 : (∃ i, j = 0 + i ∧ i < 1) ∨ (∃ i, j = 1 + i ∧ i < 1) ∨ (∃ i, j = 2 + i ∧ i < 1) ∨ (∃ i, j = 3 + i ∧ i < 1) := by
    by_cases c0 : j < 1
    · exact .inl ⟨j - 0, by omega, by omega⟩
    by_cases c1 : j < 2
    · exact .inr (.inl ⟨j - 1, by omega, by omega⟩)
    by_cases c2 : j < 3
    · exact .inr (.inr (.inl ⟨j - 2, by omega, by omega⟩))
    exact .inr (.inr (.inr (⟨j - 3, by omega, by omega⟩)))
  rcases hj2 with ⟨i, rfl, hi⟩ | ⟨i, rfl, hi⟩ | ⟨i, rfl, hi⟩ | ⟨i, rfl, hi⟩
  · exact k0 i hi
  · exact k1 i hi
  · exact k2 i hi
  · exact k3 i hi
set_option maxRecDepth 20000 in
theorem nums_fuse : Nums 26 4 := by
  intro H enc w base spare held fuel cs x h j hj
  obtain ⟨xs, m, rfl, rfl, hlen, hxs, hf⟩ := DataW.trod_struct Tryz.underlying26 h
  have hx : xs.length = 1 := hxs
  have key : ∀ (i o n t : Nat) (f : Field), DataW.trod enc Tryz.prog w base spare held m f.type (List.take (Tryz.prog.cellsOf f.type) (List.drop f.offset cs)) = xs[i]? → i < 1 → f.type = t → f.offset = o → Tryz.prog.cellsOf t = n → Nums t n → ∀ j, j < n → ∃ m : Int, cs[o + j]? = some (.int .i64 m) ∧ -9223372036854775808 ≤ m ∧ m ≤ 9223372036854775807 := by
    intro i o n t f h3 hi h1 h2 hn hN j hj
    rw [h1, h2, hn, List.getElem?_eq_getElem (by omega : i < xs.length)] at h3
    exact nums_part (hN _ _ _ _ _ _ _ _ _ h3 j hj) hj
  have k0 := key 0 0 4 24 _ (hf 0 _ rfl) (by omega) rfl rfl Tryz.cellsQuat nums_quat
  have hj2 : (∃ i, j = 0 + i ∧ i < 4) := by
    exact ⟨j - 0, by omega, by omega⟩
  rcases hj2 with ⟨i, rfl, hi⟩
  · exact k0 i hi
set_option maxRecDepth 20000 in
theorem nums_vec : Nums 28 3 := by
  intro H enc w base spare held fuel cs x h j hj
  obtain ⟨xs, m, rfl, rfl, hlen, hxs, hf⟩ := DataW.trod_struct Tryz.underlying28 h
  have hx : xs.length = 3 := hxs
  have key : ∀ (i o n t : Nat) (f : Field), DataW.trod enc Tryz.prog w base spare held m f.type (List.take (Tryz.prog.cellsOf f.type) (List.drop f.offset cs)) = xs[i]? → i < 3 → f.type = t → f.offset = o → Tryz.prog.cellsOf t = n → Nums t n → ∀ j, j < n → ∃ m : Int, cs[o + j]? = some (.int .i64 m) ∧ -9223372036854775808 ≤ m ∧ m ≤ 9223372036854775807 := by
    intro i o n t f h3 hi h1 h2 hn hN j hj
    rw [h1, h2, hn, List.getElem?_eq_getElem (by omega : i < xs.length)] at h3
    exact nums_part (hN _ _ _ _ _ _ _ _ _ h3 j hj) hj
  have k0 := key 0 0 1 2 _ (hf 0 _ rfl) (by omega) rfl rfl Tryz.cellsI64 nums_i64
  have k1 := key 1 1 1 2 _ (hf 1 _ rfl) (by omega) rfl rfl Tryz.cellsI64 nums_i64
  have k2 := key 2 2 1 2 _ (hf 2 _ rfl) (by omega) rfl rfl Tryz.cellsI64 nums_i64
  have hj2 : (∃ i, j = 0 + i ∧ i < 1) ∨ (∃ i, j = 1 + i ∧ i < 1) ∨ (∃ i, j = 2 + i ∧ i < 1) := by
    by_cases c0 : j < 1
    · exact .inl ⟨j - 0, by omega, by omega⟩
    by_cases c1 : j < 2
    · exact .inr (.inl ⟨j - 1, by omega, by omega⟩)
    exact .inr (.inr (⟨j - 2, by omega, by omega⟩))
  rcases hj2 with ⟨i, rfl, hi⟩ | ⟨i, rfl, hi⟩ | ⟨i, rfl, hi⟩
  · exact k0 i hi
  · exact k1 i hi
  · exact k2 i hi
set_option maxRecDepth 20000 in
theorem nums_ask : Nums 30 8 := by
  intro H enc w base spare held fuel cs x h j hj
  obtain ⟨xs, m, rfl, rfl, hlen, hxs, hf⟩ := DataW.trod_struct Tryz.underlying30 h
  have hx : xs.length = 3 := hxs
  have key : ∀ (i o n t : Nat) (f : Field), DataW.trod enc Tryz.prog w base spare held m f.type (List.take (Tryz.prog.cellsOf f.type) (List.drop f.offset cs)) = xs[i]? → i < 3 → f.type = t → f.offset = o → Tryz.prog.cellsOf t = n → Nums t n → ∀ j, j < n → ∃ m : Int, cs[o + j]? = some (.int .i64 m) ∧ -9223372036854775808 ≤ m ∧ m ≤ 9223372036854775807 := by
    intro i o n t f h3 hi h1 h2 hn hN j hj
    rw [h1, h2, hn, List.getElem?_eq_getElem (by omega : i < xs.length)] at h3
    exact nums_part (hN _ _ _ _ _ _ _ _ _ h3 j hj) hj
  have k0 := key 0 0 4 26 _ (hf 0 _ rfl) (by omega) rfl rfl Tryz.cellsFuse nums_fuse
  have k1 := key 1 4 3 28 _ (hf 1 _ rfl) (by omega) rfl rfl Tryz.cellsVec nums_vec
  have k2 := key 2 7 1 3 _ (hf 2 _ rfl) (by omega) rfl rfl Tryz.cellsInt nums_int
  have hj2 : (∃ i, j = 0 + i ∧ i < 4) ∨ (∃ i, j = 4 + i ∧ i < 3) ∨ (∃ i, j = 7 + i ∧ i < 1) := by
    by_cases c0 : j < 4
    · exact .inl ⟨j - 0, by omega, by omega⟩
    by_cases c1 : j < 7
    · exact .inr (.inl ⟨j - 4, by omega, by omega⟩)
    exact .inr (.inr (⟨j - 7, by omega, by omega⟩))
  rcases hj2 with ⟨i, rfl, hi⟩ | ⟨i, rfl, hi⟩ | ⟨i, rfl, hi⟩
  · exact k0 i hi
  · exact k1 i hi
  · exact k2 i hi
theorem open_nl {H : Type} {enc : TypeId × Value → H} {W : World} {t et : TypeId} {q : Nat} (hu : Tryz.prog.underlying t = some (.slice et)) (hq : Tryz.prog.cellsOf et = q) (hN : Nums et q) (h1 : 0 < q) {a : Option Addr} {len cap : Nat} {d : DataW H} {p : List MemPlace}
    (h : DataW.Trod enc Tryz.prog W 0 (fun _ => true) true t (.slice a len cap) d p) : len = 0 ∨ ∃ b off Z, a = some ⟨b, off, none⟩ ∧ len ≤ maxLen ∧ NL q W b off len Z := by
  by_cases h0 : len = 0
  · exact .inl h0
  right
  obtain ⟨fuel, hf⟩ := h
  rcases open_slice hu hf with ⟨hcs, _⟩ | ⟨x, l, c, m, n, D, Pl, hcs, _, hl, hm, hmm, _, hel⟩
  · simp [Value.cells] at hcs
    omega
  · simp [Value.cells] at hcs
    obtain ⟨rfl, rfl, rfl⟩ := hcs
    simp only [if_true] at hmm
    obtain ⟨b, off, spot⟩ := x
    rw [hq] at hel
    have hcell : ∀ i, i < len → ∀ j, j < q → ∃ n : Int, W.cell? (((⟨b, off, spot⟩ : Addr).add (i * q)).add j) = some (.int .i64 n) ∧ -9223372036854775808 ≤ n ∧ n ≤ 9223372036854775807 := by
      intro i hi j hj
      obtain ⟨cs', h1, h2⟩ := hel i (by omega)
      obtain ⟨_, _, h3⟩ := World.cells?_some h1
      obtain ⟨n, hn, hb⟩ := hN _ _ _ _ _ _ _ _ _ h2 j hj
      refine ⟨n, ?_, hb⟩
      have h4 := h3 j hj
      rw [hn] at h4
      exact h4
    have hspot : spot = none := by
      obtain ⟨n, hn, _⟩ := hcell 0 (by omega) 0 h1
      simpa [Addr.add] using World.cell?_spot hn
    subst hspot
    refine ⟨b, off, fun i j => numAt W ⟨b, off + i * q + j, none⟩, rfl, by omega, ?_⟩
    intro i hi j hj
    obtain ⟨n, hn0, hb⟩ := hcell i hi j hj
    have hn : W.cell? ⟨b, off + i * q + j, none⟩ = some (.int .i64 n) := by rw [add_plain, add_plain] at hn0; exact hn0
    have : numAt W ⟨b, off + i * q + j, none⟩ = n := by unfold numAt; rw [hn]
    simp only [this]
    exact ⟨hn, hb⟩
end Go.Proofs.YtoeecldhbabmbaaGreat
