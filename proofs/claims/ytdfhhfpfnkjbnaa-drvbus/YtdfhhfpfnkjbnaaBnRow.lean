/- DrvBus: on a bus without faults a driver of a device that is there is on behind three transactions, tells the samples of the list of the device, in order, none bad, and is off behind one more, whatever the list and the number.
   Its conditions: none beyond the given statement's own. -/
import Derived.Test.YtdfhhfpfnkjbnaaRow9
import Derived.Test.YtdfhhfpfnkjbnaaBn8
namespace Go.Proofs.Ytdfhhfpfnkjbnaa
open Go.ChangeShapes Go.WideShapes Go.ChangeAt Go.RowKit Go.Deep

section
variable {H : Type} {enc : TypeId × Value → H} {W : World}
theorem Try.cellsModel9 : Try.prog.cellsOf 60 = 2 := by kernel_rfl
theorem Try.cellsRaws : Try.prog.cellsOf 43 = 1 := by kernel_rfl
theorem Try.cellsRaw : Try.prog.cellsOf 72 = 4 := by kernel_rfl
def rawP (cs : List Value) (r : Raw) : Prop := cs[0]? = some (.int .i64 r.x) ∧ cs[1]? = some (.int .i64 r.y) ∧ cs[2]? = some (.int .i64 r.z) ∧ cs[3]? = some (.int .i64 r.t)
theorem open_raw (fuel : Nat) (cs : List Value) (x : DataW H × List MemPlace) (h : DataW.trod enc Try.prog W 0 (fun _ => true) true fuel 72 cs = some x) : ∃ r, rawP cs r := by
  obtain ⟨xs, m, rfl, rfl, hlen, hxs, hf⟩ := DataW.trod_struct Try.underlying72 h
  have hx : xs.length = 4 := hxs
  obtain ⟨a0, h0, _⟩ := open_int (o := 0) (hf 0 _ rfl) (by simp [hx])
  obtain ⟨a1, h1, _⟩ := open_int (o := 1) (hf 1 _ rfl) (by simp [hx])
  obtain ⟨a2, h2, _⟩ := open_int (o := 2) (hf 2 _ rfl) (by simp [hx])
  obtain ⟨a3, h3, _⟩ := open_int (o := 3) (hf 3 _ rfl) (by simp [hx])
  exact ⟨⟨a0, a1, a2, a3⟩, h0, h1, h2, h3⟩
theorem open_raws {fuel : Nat} {v : Value} {x : DataW H × List MemPlace} (h : DataW.trod enc Try.prog W 0 (fun _ => true) true fuel 43 [v] = some x) :
    ∃ (a : Option Addr) (L : List Raw) (c : Nat), v = .slice a L.length c ∧ L.length ≤ c ∧ LR W a L := by
  obtain ⟨a, l, c, h1, _, h2, h3⟩ := @open_rows H enc W Raw ⟨nought⟩ _ _ 4 rawP Try.underlying43 Try.cellsRaw (by omega) (fun f cs x h _ => open_raw f cs x h) _ _ _ h
  refine ⟨a, l, c, h1, h2, fun i hi => ?_⟩
  obtain ⟨b, off, cs, e, ⟨p0, p1, p2, p3⟩, _, hc⟩ := h3 i hi
  exact ⟨b, off, e, (hc 0 (by omega)).trans p0, (hc 1 (by omega)).trans p1, (hc 2 (by omega)).trans p2, (hc 3 (by omega)).trans p3⟩
set_option maxRecDepth 20000 in
theorem open_model {v : Value} {t : TypeId} (hv : Value.okWide Try.prog W .any t 60 v) {x : DataW H × List MemPlace} (h0 : ∃ fuel, DataW.trod enc Try.prog W 0 (fun _ => true) true fuel 60 v.cells.toList = some x) :
    ∃ a L c N, v = .agg #[.slice a (List.length (α := Raw) L) c, .int .i64 N] ∧ L.length ≤ c ∧ LR W a L := by
  obtain ⟨cs, rfl, hcs⟩ := okWide_struct Try.underlying60 hv
  rw [Try.cellsModel9] at hcs
  obtain ⟨fuel, h⟩ := h0
  simp only [Value.cells] at h
  obtain ⟨xs, m, rfl, rfl, hlen, hxs, hf⟩ := DataW.trod_struct Try.underlying60 h
  have hx : xs.length = 2 := hxs
  have h0 : DataW.trod enc Try.prog W 0 (fun _ => true) true m 43 (List.take (Try.prog.cellsOf 43) (List.drop 0 cs.toList)) = xs[0]? := hf 0 _ rfl
  rw [Try.cellsRaws, List.getElem?_eq_getElem (by omega)] at h0
  have hl1 : cs.toList.length = 2 := by simpa using hcs
  obtain ⟨u0, hu0, hu0'⟩ := part_of (cs := cs.toList) (o := 0) (by omega)
  rw [hu0'] at h0
  obtain ⟨a, L, c, rfl, q1, q2⟩ := open_raws h0
  obtain ⟨N, hN, _⟩ := open_int (o := 1) (hf 1 _ rfl) (by simp [hx])
  refine ⟨a, L, c, N, ?_, q1, q2⟩
  congr 1
  apply Array.ext'
  apply List.ext_getElem?
  intro i
  match i with
  | 0 => simpa using hu0
  | 1 => simpa using hN
  | i + 2 => rw [List.getElem?_eq_none (by omega), List.getElem?_eq_none (by simp)]
end
set_option maxRecDepth 100000 in
theorem drvBus_lifted (os : Os) (started : os.Started) (H : Type) (enc : TypeId × Value → H) :
    ReturnsInHanded {} Try.checked os 7 .any (Rows.drvBusSpec.pre6 enc Try.prog Try.f7 Rows.drvBusRow.domain false) (Rows.drvBusSpec.post enc Try.prog Try.f7 false true false false) := by
  refine returnsInHanded_of_change (C := Try.checked) Try.own started (by kernel_rfl) Try.func7
    (ChangeSpec.witness6 (enc := enc) (C := Try.checked) false ⟨#[], #[.agg #[.slice none 0 0, .int .i64 0]], []⟩ 8 (by kernel_rfl) (by kernel_rfl) (by kernel_rfl) (by kernel_rfl)) ?_
  intro W base args ds gs before hval0 hW hcnd _
  have hval : ∀ (j : Nat) t v, Try.f7.params[j]? = some t → args[j]? = some v → Value.okWide Try.prog W .any base t v := hval0
  have hW' := hW
  obtain ⟨p, q, hA0, hV, rfl, hfz, hnd⟩ := hW
  have hA : DataW.TrodAll enc Try.prog W 0 (fun _ => true) true Try.f7.params.toList args.toList ds p := hA0
  rw [Try.params7] at hA hval
  obtain ⟨v0, d0, rfl, rfl, h0⟩ := trodAll_one hA
  obtain ⟨rfl, rfl⟩ := trodVars_none hV
  have lt0 : ∀ x ∈ p, x.block < W.heap.size := by obtain ⟨m, hm⟩ := h0; exact DataW.trod_lt m _ _ _ hm
  obtain ⟨a0, L, cap0, N, rfl, hl, hz⟩ := open_model (hval 0 60 v0 rfl rfl) h0
  clear hA0 hval0
  have walk : Calls Try.prog 7 #[.agg #[Value.slice a0 L.length cap0, .int .i64 N]] W fun e w' => e = .returned (.bool true) ∧ Ext W w' := drvbus_any W a0 L cap0 N hz
  refine walk.mono fun e W' ⟨he, bel0⟩ => ?_
  have bel : Below W.heap.size W W' := bel0
  subst he
  exact ⟨_, rfl, _, _, _, [], _, [], hW', trodAll_mk1 (shut_bool Try.underlying4 _), trodAll_mk1 (Below.trod Try.laidOut (by kernel_rfl) (of_decide_eq_true (by kernel_rfl)) h0 bel lt0), rfl, bel.frame _, fun h => by cases h⟩

/-- DrvBus: on a bus without faults a driver of a device that is there is on behind three transactions, tells the samples of the list of the device, in order, none bad, and is off behind one more, whatever the list and the number. -/
theorem drvBus_holds : Rows.DrvBusSaid :=
  OpenClaim.holds_of_wide 7 Try.f7 rfl rfl rfl rfl rfl rfl rfl ⟨rfl, rfl, rfl, rfl, rfl⟩ rfl rfl rfl rfl rfl (by kernel_rfl) Try.func7 (by kernel_rfl)
    (of_decide_eq_true (by kernel_rfl)) (by unfold Func.isWrapper; first | (rw [if_pos (by decide +kernel)]; kernel_rfl) | (rw [if_neg (by decide +kernel)]; exact ⟨rfl, rfl⟩))
    (fun os started H enc _ => drvBus_lifted os started H enc)
#print axioms drvBus_holds
end Go.Proofs.Ytdfhhfpfnkjbnaa
