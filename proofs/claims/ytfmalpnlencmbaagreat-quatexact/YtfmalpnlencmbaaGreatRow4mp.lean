/- How a list of Two that came in is read, and how a law over one is lifted to its row. -/
import Derived.Test.YtfmalpnlencmbaaGreatRows
import Derived.Test.YtfmalpnlencmbaaGreatMg29p
import Derived.ProofKit
import Derived.OpenShut
import Derived.ChangeOld
import Derived.Deep.Slices
namespace Go.Proofs.YtfmalpnlencmbaaGreat
open Go.ChangeShapes Go.WideShapes Go.ChangeAt Go.RowKit Go.Deep

theorem Tryz.own : ownKnob Tryz.prog.godebug = none := by kernel_rfl
theorem Tryz.laidOut : laidOutB Tryz.prog = true := by kernel_rfl
theorem Tryz.cellsTwo : Tryz.prog.cellsOf 51 = 14 := by kernel_rfl
theorem Tryz.cellsI64 : Tryz.prog.cellsOf 2 = 1 := by kernel_rfl
theorem Tryz.cellsVec : Tryz.prog.cellsOf 24 = 3 := by kernel_rfl
theorem Tryz.cellsQuat : Tryz.prog.cellsOf 49 = 4 := by kernel_rfl

def numAt (w : World) (a : Addr) : Int := match w.cell? a with | some (.int _ n) => n | _ => 0

theorem add_plain (b o n : Nat) : (⟨b, o, none⟩ : Addr).add n = ⟨b, o + n, none⟩ := by
  unfold Addr.add
  split
  · subst_vars; rfl
  · rfl

theorem i64_bounds {n : Int} (h : (Lit.int .i64 n).wf = true) : -9223372036854775808 ≤ n ∧ n ≤ 9223372036854775807 := by
  have := bounds_i64 h
  omega
/-- what is read of type t has n numbers -/
def Nums (t : TypeId) (n : Nat) : Prop := ∀ (H : Type) (enc : TypeId × Value → H) (w : World) (base : Nat) (spare : Nat → Bool) (held : Bool) (fuel : Nat) (cs : List Value) (x : DataW H × List MemPlace),
  DataW.trod enc Tryz.prog w base spare held fuel t cs = some x → ∀ j, j < n → ∃ m : Int, cs[j]? = some (.int .i64 m) ∧ -9223372036854775808 ≤ m ∧ m ≤ 9223372036854775807
theorem nums_i64 : Nums 2 1 := by
  intro H enc w base spare held fuel cs x h j hj
  obtain rfl : j = 0 := by omega
  obtain ⟨n, hn, _, hw⟩ := DataW.trod_int Tryz.underlying2 h
  exact ⟨n, by rw [hn]; rfl, i64_bounds hw⟩
theorem nums_part {cs : List Value} {o l j : Nat} (h : ∃ m : Int, (List.take l (List.drop o cs))[j]? = some (.int .i64 m) ∧ -9223372036854775808 ≤ m ∧ m ≤ 9223372036854775807) (hj : j < l) : ∃ m : Int, cs[o + j]? = some (.int .i64 m) ∧ -9223372036854775808 ≤ m ∧ m ≤ 9223372036854775807 := by
  obtain ⟨m, hm, hb⟩ := h
  refine ⟨m, ?_, hb⟩
  rw [List.getElem?_take_of_lt hj, List.getElem?_drop] at hm
  exact hm
theorem nums_vec : Nums 24 3 := by
  intro H enc w base spare held fuel cs x h j hj
  obtain ⟨xs, m, rfl, rfl, hlen, hxs, hf⟩ := DataW.trod_struct Tryz.underlying24 h
  have hx : xs.length = 3 := hxs
  have key : ∀ (i o : Nat) (f : Field), i < 3 → f.type = 2 → f.offset = o → DataW.trod enc Tryz.prog w base spare held m f.type (List.take (Tryz.prog.cellsOf f.type) (List.drop f.offset cs)) = xs[i]? → ∃ m : Int, cs[o + 0]? = some (.int .i64 m) ∧ -9223372036854775808 ≤ m ∧ m ≤ 9223372036854775807 := by
    intro i o f hi h1 h2 h3
    rw [h1, h2, Tryz.cellsI64, List.getElem?_eq_getElem (by omega : i < xs.length)] at h3
    exact nums_part (nums_i64 _ _ _ _ _ _ _ _ _ h3 0 (by omega)) (by omega)
  match j, hj with
  | 0, _ => exact key 0 0 _ (by omega) rfl rfl (hf 0 _ rfl)
  | 1, _ => exact key 1 1 _ (by omega) rfl rfl (hf 1 _ rfl)
  | 2, _ => exact key 2 2 _ (by omega) rfl rfl (hf 2 _ rfl)
theorem nums_quat : Nums 49 4 := by
  intro H enc w base spare held fuel cs x h j hj
  obtain ⟨xs, m, rfl, rfl, hlen, hxs, hf⟩ := DataW.trod_struct Tryz.underlying49 h
  have hx : xs.length = 4 := hxs
  have key : ∀ (i o : Nat) (f : Field), i < 4 → f.type = 2 → f.offset = o → DataW.trod enc Tryz.prog w base spare held m f.type (List.take (Tryz.prog.cellsOf f.type) (List.drop f.offset cs)) = xs[i]? → ∃ m : Int, cs[o + 0]? = some (.int .i64 m) ∧ -9223372036854775808 ≤ m ∧ m ≤ 9223372036854775807 := by
    intro i o f hi h1 h2 h3
    rw [h1, h2, Tryz.cellsI64, List.getElem?_eq_getElem (by omega : i < xs.length)] at h3
    exact nums_part (nums_i64 _ _ _ _ _ _ _ _ _ h3 0 (by omega)) (by omega)
  match j, hj with
  | 0, _ => exact key 0 0 _ (by omega) rfl rfl (hf 0 _ rfl)
  | 1, _ => exact key 1 1 _ (by omega) rfl rfl (hf 1 _ rfl)
  | 2, _ => exact key 2 2 _ (by omega) rfl rfl (hf 2 _ rfl)
  | 3, _ => exact key 3 3 _ (by omega) rfl rfl (hf 3 _ rfl)
set_option maxRecDepth 20000 in
theorem nums_two : Nums 51 14 := by
  intro H enc w base spare held fuel cs x h j hj
  obtain ⟨xs, m, rfl, rfl, hlen, hxs, hf⟩ := DataW.trod_struct Tryz.underlying51 h
  have hx : xs.length = 4 := hxs
  have key : ∀ (i o n t : Nat) (f : Field), DataW.trod enc Tryz.prog w base spare held m f.type (List.take (Tryz.prog.cellsOf f.type) (List.drop f.offset cs)) = xs[i]? → i < 4 → f.type = t → f.offset = o → Tryz.prog.cellsOf t = n → Nums t n → ∀ j, j < n → ∃ m : Int, cs[o + j]? = some (.int .i64 m) ∧ -9223372036854775808 ≤ m ∧ m ≤ 9223372036854775807 := by
    intro i o n t f h3 hi h1 h2 hn hN j hj
    rw [h1, h2, hn, List.getElem?_eq_getElem (by omega : i < xs.length)] at h3
    exact nums_part (hN _ _ _ _ _ _ _ _ _ h3 j hj) hj
  have kA := key 0 0 4 49 _ (hf 0 _ rfl) (by omega) rfl rfl Tryz.cellsQuat nums_quat
  have kB := key 1 4 4 49 _ (hf 1 _ rfl) (by omega) rfl rfl Tryz.cellsQuat nums_quat
  have kV := key 2 8 3 24 _ (hf 2 _ rfl) (by omega) rfl rfl Tryz.cellsVec nums_vec
  have kU := key 3 11 3 24 _ (hf 3 _ rfl) (by omega) rfl rfl Tryz.cellsVec nums_vec
  by_cases c1 : j < 4
  · have := kA j c1; rwa [Nat.zero_add] at this
  · by_cases c2 : j < 8
    · have := kB (j - 4) (by omega); rwa [show 4 + (j - 4) = j by omega] at this
    · by_cases c3 : j < 11
      · have := kV (j - 8) (by omega); rwa [show 8 + (j - 8) = j by omega] at this
      · have := kU (j - 11) (by omega); rwa [show 11 + (j - 11) = j by omega] at this

theorem open_twos {H : Type} {enc : TypeId × Value → H} {W : World} {a : Option Addr} {len cap : Nat} {d : DataW H} {p : List MemPlace}
    (h : DataW.Trod enc Tryz.prog W 0 (fun _ => true) true 47 (.slice a len cap) d p) : len = 0 ∨ ∃ b off Z, a = some ⟨b, off, none⟩ ∧ len ≤ maxLen ∧ Twos4 W b off len Z := by
  by_cases h0 : len = 0
  · exact .inl h0
  right
  obtain ⟨fuel, hf⟩ := h
  rcases open_slice Tryz.underlying47 hf with ⟨hcs, _⟩ | ⟨x, l, c, m, n, D, Pl, hcs, _, hl, hm, hmm, _, hel⟩
  · simp [Value.cells] at hcs
    omega
  · simp [Value.cells] at hcs
    obtain ⟨rfl, rfl, rfl⟩ := hcs
    simp only [if_true] at hmm
    obtain ⟨b, off, spot⟩ := x
    rw [Tryz.cellsTwo] at hel
    have hcell : ∀ i, i < len → ∀ j, j < 14 → ∃ n : Int, W.cell? (((⟨b, off, spot⟩ : Addr).add (i * 14)).add j) = some (.int .i64 n) ∧ -9223372036854775808 ≤ n ∧ n ≤ 9223372036854775807 := by
      intro i hi j hj
      obtain ⟨cs', h1, h2⟩ := hel i (by omega)
      obtain ⟨_, _, h3⟩ := World.cells?_some h1
      obtain ⟨n, hn, hb⟩ := nums_two _ _ _ _ _ _ _ _ _ h2 j hj
      refine ⟨n, ?_, hb⟩
      have h4 := h3 j hj
      rw [hn] at h4
      exact h4
    have hspot : spot = none := by
      obtain ⟨n, hn, _⟩ := hcell 0 (by omega) 0 (by omega)
      simpa [Addr.add] using World.cell?_spot hn
    subst hspot
    refine ⟨b, off, fun i j => numAt W ⟨b, off + i * 14 + j, none⟩, rfl, by omega, ?_⟩
    intro i hi j hj
    obtain ⟨n, hn0, hb⟩ := hcell i hi j hj
    have hn : W.cell? ⟨b, off + i * 14 + j, none⟩ = some (.int .i64 n) := by rw [add_plain, add_plain] at hn0; exact hn0
    have : numAt W ⟨b, off + i * 14 + j, none⟩ = n := by unfold numAt; rw [hn]
    simp only [this]
    exact ⟨hn, hb⟩
end Go.Proofs.YtfmalpnlencmbaaGreat
