/- BusSamples holds for every script: a device that is on, read often enough, tells the samples of its list in order, one each period; one that is off tells none.
   Its conditions: none beyond the given statement's own. -/
import Derived.Test.YtadgaolakbnhcaaRow8
import Derived.Test.YtadgaolakbnhcaaZc
namespace Go.Proofs.Ytadgaolakbnhcaa
open Go.ChangeShapes Go.WideShapes Go.ChangeAt Go.RowKit Go.Deep

set_option maxRecDepth 100000 in
theorem busSamples_lifted (os : Os) (started : os.Started) (H : Type) (enc : TypeId × Value → H) :
    ReturnsInHanded {} Try.checked os 4 .any (Rows.busSamplesSpec.pre6 enc Try.prog Try.f4 Rows.busSamplesRow.domain false) (Rows.busSamplesSpec.post enc Try.prog Try.f4 false true false false) := by
  refine returnsInHanded_of_change (C := Try.checked) Try.own started (by kernel_rfl) Try.func4
    (ChangeSpec.witness6 (enc := enc) (C := Try.checked) false ⟨#[], #[.agg #[.slice none 0 0, .slice none 0 0, .slice none 0 0]], []⟩ 8 (by kernel_rfl) (by kernel_rfl) (by kernel_rfl) (by kernel_rfl)) ?_
  intro W base args ds gs before hval0 hW hcnd _
  have hval : ∀ (j : Nat) t v, Try.f4.params[j]? = some t → args[j]? = some v → Value.okWide Try.prog W .any base t v := hval0
  have hW' := hW
  obtain ⟨p, q, hA0, hV, rfl, hfz, hnd⟩ := hW
  have hA : DataW.TrodAll enc Try.prog W 0 (fun _ => true) true Try.f4.params.toList args.toList ds p := hA0
  rw [Try.params4] at hA hval
  obtain ⟨v0, d0, rfl, rfl, h0⟩ := trodAll_one hA
  obtain ⟨rfl, rfl⟩ := trodVars_none hV
  have lt0 : ∀ x ∈ p, x.block < W.heap.size := by obtain ⟨m, hm⟩ := h0; exact DataW.trod_lt m _ _ _ hm
  obtain ⟨am, M, cm, af, F, cf, al, L, cl, rfl, ⟨hM1, hM2, hM3⟩, ⟨hF1, hF2⟩, hL1, hL2⟩ := open_script (hval 0 26 v0 rfl rfl) h0
  clear hA0 hval0
  have walk : Calls Try.prog 4 #[.agg #[.slice am M.length cm, .slice af F.length cf, .slice al L.length cl]] W fun e w' => e = .returned (.bool true) ∧ Ext W w' := samples_any W am M cm af F.length cf al L.length cl hM3 hM1 hM2
  refine walk.mono fun e W' ⟨he, bel0⟩ => ?_
  have bel : Below W.heap.size W W' := bel0
  subst he
  exact ⟨_, rfl, _, _, _, [], _, [], hW', trodAll_mk1 (shut_bool Try.underlying4 _), trodAll_mk1 (Below.trod Try.laidOut (by kernel_rfl) (of_decide_eq_true (by kernel_rfl)) h0 bel lt0), rfl, bel.frame _, fun h => by cases h⟩

/-- BusSamples holds for every script: a device that is on, read often enough, tells the samples of its list in order, one each period; one that is off tells none. -/
theorem busSamples_holds : Rows.BusSamplesSaid :=
  OpenClaim.holds_of_wide 4 Try.f4 rfl rfl rfl rfl rfl rfl rfl ⟨rfl, rfl, rfl, rfl, rfl⟩ rfl rfl rfl rfl rfl (by kernel_rfl) Try.func4 (by kernel_rfl)
    (of_decide_eq_true (by kernel_rfl)) (by unfold Func.isWrapper; first | (rw [if_pos (by decide +kernel)]; kernel_rfl) | (rw [if_neg (by decide +kernel)]; exact ⟨rfl, rfl⟩))
    (fun os started H enc _ => busSamples_lifted os started H enc)
#print axioms busSamples_holds
end Go.Proofs.Ytadgaolakbnhcaa
