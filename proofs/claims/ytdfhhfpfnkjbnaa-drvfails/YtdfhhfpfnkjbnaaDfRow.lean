/- DrvFails: a driver fails only behind as many failures one behind the other as may be, and a reset, or a reset that failed; each answer changes its state by one step; what it tells is of its own transaction, whatever the run of asks.
   Its conditions: none beyond the given statement's own. -/
import Derived.Test.YtdfhhfpfnkjbnaaRow9
import Derived.Test.YtdfhhfpfnkjbnaaDf8
namespace Go.Proofs.Ytdfhhfpfnkjbnaa
open Go.ChangeShapes Go.WideShapes Go.ChangeAt Go.RowKit Go.Deep

section
variable {H : Type} {enc : TypeId × Value → H} {W : World}
theorem Try.cellsRun : Try.prog.cellsOf 56 = 1 := by kernel_rfl
theorem Try.cellsAsks : Try.prog.cellsOf 22 = 1 := by kernel_rfl
set_option maxRecDepth 20000 in
theorem open_run {v : Value} {t : TypeId} (hv : Value.okWide Try.prog W .any t 56 v) {x : DataW H × List MemPlace} (h0 : ∃ fuel, DataW.trod enc Try.prog W 0 (fun _ => true) true fuel 56 v.cells.toList = some x) :
    ∃ a L c, v = .agg #[.slice a (List.length (α := Ask) L) c] ∧ L.length ≤ maxLen ∧ AKs W a L := by
  obtain ⟨cs, rfl, hcs⟩ := okWide_struct Try.underlying56 hv
  rw [Try.cellsRun] at hcs
  obtain ⟨fuel, h⟩ := h0
  simp only [Value.cells] at h
  obtain ⟨xs, m, rfl, rfl, hlen, hxs, hf⟩ := DataW.trod_struct Try.underlying56 h
  have hx : xs.length = 1 := hxs
  have h0 : DataW.trod enc Try.prog W 0 (fun _ => true) true m 22 (List.take (Try.prog.cellsOf 22) (List.drop 0 cs.toList)) = xs[0]? := hf 0 _ rfl
  rw [Try.cellsAsks, List.getElem?_eq_getElem (by omega)] at h0
  have hl1 : cs.toList.length = 1 := by simpa using hcs
  obtain ⟨u0, hu0, hu0'⟩ := part_of (cs := cs.toList) (o := 0) (by omega)
  rw [hu0'] at h0
  obtain ⟨a, L, c, rfl, q1, q2⟩ := open_asks h0
  refine ⟨a, L, c, ?_, q1, q2⟩
  congr 1
  apply Array.ext'
  apply List.ext_getElem?
  intro i
  match i with
  | 0 => simpa using hu0
  | i + 1 => rw [List.getElem?_eq_none (by omega), List.getElem?_eq_none (by simp)]
end
set_option maxRecDepth 100000 in
theorem drvFails_lifted (os : Os) (started : os.Started) (H : Type) (enc : TypeId × Value → H) :
    ReturnsInHanded {} Try.checked os 6 .any (Rows.drvFailsSpec.pre6 enc Try.prog Try.f6 Rows.drvFailsRow.domain false) (Rows.drvFailsSpec.post enc Try.prog Try.f6 false true false false) := by
  refine returnsInHanded_of_change (C := Try.checked) Try.own started (by kernel_rfl) Try.func6
    (ChangeSpec.witness6 (enc := enc) (C := Try.checked) false ⟨#[], #[.agg #[.slice none 0 0]], []⟩ 8 (by kernel_rfl) (by kernel_rfl) (by kernel_rfl) (by kernel_rfl)) ?_
  intro W base args ds gs before hval0 hW hcnd _
  have hval : ∀ (j : Nat) t v, Try.f6.params[j]? = some t → args[j]? = some v → Value.okWide Try.prog W .any base t v := hval0
  have hW' := hW
  obtain ⟨p, q, hA0, hV, rfl, hfz, hnd⟩ := hW
  have hA : DataW.TrodAll enc Try.prog W 0 (fun _ => true) true Try.f6.params.toList args.toList ds p := hA0
  rw [Try.params6] at hA hval
  obtain ⟨v0, d0, rfl, rfl, h0⟩ := trodAll_one hA
  obtain ⟨rfl, rfl⟩ := trodVars_none hV
  have lt0 : ∀ x ∈ p, x.block < W.heap.size := by obtain ⟨m, hm⟩ := h0; exact DataW.trod_lt m _ _ _ hm
  obtain ⟨a0, L, cap0, rfl, hl, hz⟩ := open_run (hval 0 56 v0 rfl rfl) h0
  clear hA0 hval0
  have walk : Calls Try.prog 6 #[.agg #[Value.slice a0 L.length cap0]] W fun e w' => e = .returned (.bool true) ∧ Ext W w' := fails_any W a0 L cap0 hl hz
  refine walk.mono fun e W' ⟨he, bel0⟩ => ?_
  have bel : Below W.heap.size W W' := bel0
  subst he
  exact ⟨_, rfl, _, _, _, [], _, [], hW', trodAll_mk1 (shut_bool Try.underlying4 _), trodAll_mk1 (Below.trod Try.laidOut (by kernel_rfl) (of_decide_eq_true (by kernel_rfl)) h0 bel lt0), rfl, bel.frame _, fun h => by cases h⟩

/-- DrvFails: a driver fails only behind as many failures one behind the other as may be, and a reset, or a reset that failed; each answer changes its state by one step; what it tells is of its own transaction, whatever the run of asks. -/
theorem drvFails_holds : Rows.DrvFailsSaid :=
  OpenClaim.holds_of_wide 6 Try.f6 rfl rfl rfl rfl rfl rfl rfl ⟨rfl, rfl, rfl, rfl, rfl⟩ rfl rfl rfl rfl rfl (by kernel_rfl) Try.func6 (by kernel_rfl)
    (of_decide_eq_true (by kernel_rfl)) (by unfold Func.isWrapper; first | (rw [if_pos (by decide +kernel)]; kernel_rfl) | (rw [if_neg (by decide +kernel)]; exact ⟨rfl, rfl⟩))
    (fun os started H enc _ => drvFails_lifted os started H enc)
#print axioms drvFails_holds
end Go.Proofs.Ytdfhhfpfnkjbnaa
