/- BusFaults holds for every script: a fault that refuses nothing changes its own transaction alone: all others answer as without it.
   Its conditions: none beyond the given statement's own. -/
import Derived.Test.YtadgaolakbnhcaaRow8
import Derived.Test.YtadgaolakbnhcaaGz
namespace Go.Proofs.Ytadgaolakbnhcaa
open Go.ChangeShapes Go.WideShapes Go.ChangeAt Go.RowKit Go.Deep

set_option maxRecDepth 100000 in
theorem busFaults_lifted (os : Os) (started : os.Started) (H : Type) (enc : TypeId × Value → H) :
    ReturnsInHanded {} Try.checked os 5 .any (Rows.busFaultsSpec.pre6 enc Try.prog Try.f5 Rows.busFaultsRow.domain false) (Rows.busFaultsSpec.post enc Try.prog Try.f5 false true false false) := by
  refine returnsInHanded_of_change (C := Try.checked) Try.own started (by kernel_rfl) Try.func5
    (ChangeSpec.witness6 (enc := enc) (C := Try.checked) false ⟨#[], #[.agg #[.slice none 0 0, .slice none 0 0, .slice none 0 0]], []⟩ 8 (by kernel_rfl) (by kernel_rfl) (by kernel_rfl) (by kernel_rfl)) ?_
  intro W base args ds gs before hval0 hW hcnd _
  have hval : ∀ (j : Nat) t v, Try.f5.params[j]? = some t → args[j]? = some v → Value.okWide Try.prog W .any base t v := hval0
  have hW' := hW
  obtain ⟨p, q, hA0, hV, rfl, hfz, hnd⟩ := hW
  have hA : DataW.TrodAll enc Try.prog W 0 (fun _ => true) true Try.f5.params.toList args.toList ds p := hA0
  rw [Try.params5] at hA hval
  obtain ⟨v0, d0, rfl, rfl, h0⟩ := trodAll_one hA
  obtain ⟨rfl, rfl⟩ := trodVars_none hV
  have lt0 : ∀ x ∈ p, x.block < W.heap.size := by obtain ⟨m, hm⟩ := h0; exact DataW.trod_lt m _ _ _ hm
  obtain ⟨am, M, cm, af, F, cf, al, L, cl, rfl, ⟨hM1, hM2, hM3⟩, ⟨hF1, hF2⟩, hL1, hL2⟩ := open_script (hval 0 26 v0 rfl rfl) h0
  clear hA0 hval0
  have walk : Calls Try.prog 5 #[.agg #[.slice am M.length cm, .slice af F.length cf, .slice al L.length cl]] W fun e w' => e = .returned (.bool true) ∧ Ext W w' := faults_any W am M cm af F cf al L cl hM3 hM1 hF2 hF1 hL2
  refine walk.mono fun e W' ⟨he, bel0⟩ => ?_
  have bel : Below W.heap.size W W' := bel0
  subst he
  exact ⟨_, rfl, _, _, _, [], _, [], hW', trodAll_mk1 (shut_bool Try.underlying4 _), trodAll_mk1 (Below.trod Try.laidOut (by kernel_rfl) (of_decide_eq_true (by kernel_rfl)) h0 bel lt0), rfl, bel.frame _, fun h => by cases h⟩

/-- BusFaults holds for every script: a fault that refuses nothing changes its own transaction alone: all others answer as without it. -/
theorem busFaults_holds : Rows.BusFaultsSaid :=
  OpenClaim.holds_of_wide 5 Try.f5 rfl rfl rfl rfl rfl rfl rfl ⟨rfl, rfl, rfl, rfl, rfl⟩ rfl rfl rfl rfl rfl (by kernel_rfl) Try.func5 (by kernel_rfl)
    (of_decide_eq_true (by kernel_rfl)) (by unfold Func.isWrapper; first | (rw [if_pos (by decide +kernel)]; kernel_rfl) | (rw [if_neg (by decide +kernel)]; exact ⟨rfl, rfl⟩))
    (fun os started H enc _ => busFaults_lifted os started H enc)
#print axioms busFaults_holds
end Go.Proofs.Ytadgaolakbnhcaa
