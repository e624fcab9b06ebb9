/- DrvNexts: for every list of asks the law answers true: the transaction of any driver is its state's, as the page says.
   Its conditions: none beyond the given statement's own. -/
import Derived.Test.YtdfhhfpfnkjbnaaRow9
import Derived.Test.YtdfhhfpfnkjbnaaDk
namespace Go.Proofs.Ytdfhhfpfnkjbnaa
open Go.ChangeShapes Go.WideShapes Go.ChangeAt Go.RowKit Go.Deep

set_option maxRecDepth 100000 in
theorem drvNexts_lifted (os : Os) (started : os.Started) (H : Type) (enc : TypeId × Value → H) :
    ReturnsInHanded {} Try.checked os 3 .any (Rows.drvNextsSpec.pre6 enc Try.prog Try.f3 Rows.drvNextsRow.domain false) (Rows.drvNextsSpec.post enc Try.prog Try.f3 false true false false) := by
  refine returnsInHanded_of_change (C := Try.checked) Try.own started (by kernel_rfl) Try.func3
    (ChangeSpec.witness6 (enc := enc) (C := Try.checked) false ⟨#[], #[.slice none 0 0], []⟩ 8 (by kernel_rfl) (by kernel_rfl) (by kernel_rfl) (by kernel_rfl)) ?_
  intro W base args ds gs before hval0 hW hcnd _
  have hval : ∀ (j : Nat) t v, Try.f3.params[j]? = some t → args[j]? = some v → Value.okWide Try.prog W .any base t v := hval0
  have hW' := hW
  obtain ⟨p, q, hA0, hV, rfl, hfz, hnd⟩ := hW
  have hA : DataW.TrodAll enc Try.prog W 0 (fun _ => true) true Try.f3.params.toList args.toList ds p := hA0
  rw [Try.params3] at hA hval
  obtain ⟨v0, d0, rfl, rfl, h0⟩ := trodAll_one hA
  obtain ⟨rfl, rfl⟩ := trodVars_none hV
  have lt0 : ∀ x ∈ p, x.block < W.heap.size := by obtain ⟨m, hm⟩ := h0; exact DataW.trod_lt m _ _ _ hm
  obtain ⟨a0, L, cap0, rfl, hl, hz⟩ : ∃ a L cap, v0 = .slice a (List.length L) cap ∧ L.length ≤ maxLen ∧ AKs W a L := by
    obtain ⟨cs, hcs⟩ := okWide_slice Try.underlying22 (hval 0 22 v0 rfl rfl)
    obtain ⟨l1, c1, rfl⟩ := hcs
    obtain ⟨fuel, hf⟩ := h0
    simp only [Value.cells] at hf
    exact open_asks hf
  clear hA0 hval0
  have walk : Calls Try.prog 3 #[Value.slice a0 L.length cap0] W fun e w' => e = .returned (.bool true) ∧ Ext W w' := nexts_any W a0 L cap0 hl hz
  refine walk.mono fun e W' ⟨he, bel0⟩ => ?_
  have bel : Below W.heap.size W W' := bel0
  subst he
  exact ⟨_, rfl, _, _, _, [], _, [], hW', trodAll_mk1 (shut_bool Try.underlying4 _), trodAll_mk1 (Below.trod Try.laidOut (by kernel_rfl) (of_decide_eq_true (by kernel_rfl)) h0 bel lt0), rfl, bel.frame _, fun h => by cases h⟩

/-- DrvNexts: for every list of asks the law answers true: the transaction of any driver is its state's, as the page says. -/
theorem drvNexts_holds : Rows.DrvNextsSaid :=
  OpenClaim.holds_of_wide 3 Try.f3 rfl rfl rfl rfl rfl rfl rfl ⟨rfl, rfl, rfl, rfl, rfl⟩ rfl rfl rfl rfl rfl (by kernel_rfl) Try.func3 (by kernel_rfl)
    (of_decide_eq_true (by kernel_rfl)) (by unfold Func.isWrapper; first | (rw [if_pos (by decide +kernel)]; kernel_rfl) | (rw [if_neg (by decide +kernel)]; exact ⟨rfl, rfl⟩))
    (fun os started H enc _ => drvNexts_lifted os started H enc)
#print axioms drvNexts_holds
end Go.Proofs.Ytdfhhfpfnkjbnaa
