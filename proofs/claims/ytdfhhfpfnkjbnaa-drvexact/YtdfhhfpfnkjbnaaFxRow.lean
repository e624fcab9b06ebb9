/- DrvExact: any transaction of any driver, and what comes of any answer to it, is as the page says, whatever the list of asks.
   Its conditions: none beyond the given statement's own. -/
import Derived.Test.YtdfhhfpfnkjbnaaRow9
import Derived.Test.YtdfhhfpfnkjbnaaFx
namespace Go.Proofs.Ytdfhhfpfnkjbnaa
open Go.ChangeShapes Go.WideShapes Go.ChangeAt Go.RowKit Go.Deep

set_option maxRecDepth 100000 in
theorem drvExact_lifted (os : Os) (started : os.Started) (H : Type) (enc : TypeId × Value → H) :
    ReturnsInHanded {} Try.checked os 5 .any (Rows.drvExactSpec.pre6 enc Try.prog Try.f5 Rows.drvExactRow.domain false) (Rows.drvExactSpec.post enc Try.prog Try.f5 false true false false) := by
  refine returnsInHanded_of_change (C := Try.checked) Try.own started (by kernel_rfl) Try.func5
    (ChangeSpec.witness6 (enc := enc) (C := Try.checked) false ⟨#[], #[.slice none 0 0], []⟩ 8 (by kernel_rfl) (by kernel_rfl) (by kernel_rfl) (by kernel_rfl)) ?_
  intro W base args ds gs before hval0 hW hcnd _
  have hval : ∀ (j : Nat) t v, Try.f5.params[j]? = some t → args[j]? = some v → Value.okWide Try.prog W .any base t v := hval0
  have hW' := hW
  obtain ⟨p, q, hA0, hV, rfl, hfz, hnd⟩ := hW
  have hA : DataW.TrodAll enc Try.prog W 0 (fun _ => true) true Try.f5.params.toList args.toList ds p := hA0
  rw [Try.params5] at hA hval
  obtain ⟨v0, d0, rfl, rfl, h0⟩ := trodAll_one hA
  obtain ⟨rfl, rfl⟩ := trodVars_none hV
  have lt0 : ∀ x ∈ p, x.block < W.heap.size := by obtain ⟨m, hm⟩ := h0; exact DataW.trod_lt m _ _ _ hm
  obtain ⟨a0, L, cap0, rfl, hl, hz⟩ : ∃ a L cap, v0 = .slice a (List.length L) cap ∧ L.length ≤ maxLen ∧ AKs W a L := by
    obtain ⟨cs, hcs⟩ := okWide_slice Try.underlying22 (hval 0 22 v0 rfl rfl)
    obtain ⟨l1, c1, rfl⟩ := hcs
    obtain ⟨fuel, hf⟩ := h0
    simp only [Value.cells] at hf
    exact open_asks hf
  clear hA0 hval0
  have walk : Calls Try.prog 5 #[Value.slice a0 L.length cap0] W fun e w' => e = .returned (.bool true) ∧ Ext W w' := dexact_walk W a0 L cap0 hl hz
  refine walk.mono fun e W' ⟨he, bel0⟩ => ?_
  have bel : Below W.heap.size W W' := bel0
  subst he
  exact ⟨_, rfl, _, _, _, [], _, [], hW', trodAll_mk1 (shut_bool Try.underlying4 _), trodAll_mk1 (Below.trod Try.laidOut (by kernel_rfl) (of_decide_eq_true (by kernel_rfl)) h0 bel lt0), rfl, bel.frame _, fun h => by cases h⟩

/-- DrvExact: any transaction of any driver, and what comes of any answer to it, is as the page says, whatever the list of asks. -/
theorem drvExact_holds : Rows.DrvExactSaid :=
  OpenClaim.holds_of_wide 5 Try.f5 rfl rfl rfl rfl rfl rfl rfl ⟨rfl, rfl, rfl, rfl, rfl⟩ rfl rfl rfl rfl rfl (by kernel_rfl) Try.func5 (by kernel_rfl)
    (of_decide_eq_true (by kernel_rfl)) (by unfold Func.isWrapper; first | (rw [if_pos (by decide +kernel)]; kernel_rfl) | (rw [if_neg (by decide +kernel)]; exact ⟨rfl, rfl⟩))
    (fun os started H enc _ => drvExact_lifted os started H enc)
#print axioms drvExact_holds
end Go.Proofs.Ytdfhhfpfnkjbnaa
