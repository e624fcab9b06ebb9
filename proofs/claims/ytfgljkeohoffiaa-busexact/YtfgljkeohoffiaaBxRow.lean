/- BusExact holds for every script: the bus answers every act as the reference's bus does, and what was done to the models that it was made of changes nothing.
   Its conditions: none beyond the given statement's own. -/
import Derived.Test.YtfgljkeohoffiaaRow8
import Derived.Test.YtfgljkeohoffiaaBx8
import Derived.SizedLaws
namespace Go.Proofs.Ytfgljkeohoffiaa
open Go.ChangeShapes Go.WideShapes Go.ChangeAt Go.RowKit Go.Deep
theorem Try.bytesRaw : Try.prog.bytesOf 37 = 32 := by kernel_rfl
theorem Try.bytesFault : Try.prog.bytesOf 76 = 32 := by kernel_rfl
section
variable {H : Type} {enc : TypeId × Value → H} {W : World}
/-- what it holds is within reach -/
def Wb (d : DataW H) (t : TypeId) : Prop := ∀ n ∈ d.weights Try.prog t, n ≤ reachBytes
theorem all_mem {e : TypeId} : ∀ {l : List (DataW H)} {d : DataW H}, d ∈ l → ∀ n ∈ d.weights Try.prog e, n ∈ DataW.weightsAll Try.prog e l
  | [], d, h, _, _ => by cases h
  | a :: l, d, h, n, hn => by
    simp only [DataW.weightsAll, List.mem_append]
    rcases List.mem_cons.1 h with h1 | h1
    · subst h1; exact .inl hn
    · exact .inr (all_mem h1 n hn)
theorem wb_slice {T e : TypeId} (hT : Try.prog.underlying T = some (.slice e)) {el sp : List (DataW H)} (h : Wb (.slice el sp) T) : el.length * Try.prog.bytesOf e ≤ reachBytes ∧ ∀ d ∈ el, Wb d e := by
  have q : (DataW.slice el sp).weights Try.prog T = (el.length + sp.length) * Try.prog.bytesOf e :: (DataW.weightsAll Try.prog e el ++ DataW.weightsAll Try.prog e sp) := by simp [DataW.weights, hT]
  unfold Wb at h
  rw [q] at h
  refine ⟨Nat.le_trans (Nat.mul_le_mul_right _ (Nat.le_add_right _ _)) (h _ (List.mem_cons_self ..)), fun d hd n hn => h n (List.mem_cons_of_mem _ (List.mem_append_left _ (all_mem hd n hn)))⟩
theorem wb_field {T : TypeId} {fs : Array Field} (hT : Try.prog.underlying T = some (.struct fs)) {ps : List (DataW H)} (h : Wb (.agg ps) T) {j : Nat} {f : Field} {d : DataW H} (hf : fs[j]? = some f) (hd : ps[j]? = some d) : Wb d f.type := by
  have q : (DataW.agg ps).weights Try.prog T = DataW.weightsEach Try.prog (fs.toList.map (·.type)) ps := by simp [DataW.weights, hT]
  intro n hn
  refine h n ?_
  rw [q]
  exact DataW.weights_mem_each (by simp [hf]) hd n hn
theorem open_rows_w {α : Type} [Inhabited α] {T e : TypeId} {cells : Nat} {p : List Value → α → Prop} (hT : Try.prog.underlying T = some (.slice e)) (hc : Try.prog.cellsOf e = cells) (h1 : 0 < cells)
    (hp : ∀ (fuel : Nat) (cs : List Value) (x : DataW H × List MemPlace), DataW.trod enc Try.prog W 0 (fun _ => true) true fuel e cs = some x → cs.length = cells → Wb x.1 e → ∃ a, p cs a)
    {fuel : Nat} {v : Value} {x : DataW H × List MemPlace} (h : DataW.trod enc Try.prog W 0 (fun _ => true) true fuel T [v] = some x) (hw : Wb x.1 T) :
    ∃ (a : Option Addr) (l : List α) (c : Nat), v = .slice a l.length c ∧ l.length ≤ maxLen ∧ l.length ≤ c ∧ l.length * Try.prog.bytesOf e ≤ reachBytes ∧ ∀ i, i < l.length → ∃ b off cs, a = some ⟨b, off, none⟩ ∧ p cs (l.getD i default) ∧ cs.length = cells ∧ ∀ j, j < cells → W.cell? ⟨b, off + i * cells + j, none⟩ = cs[j]? := by
  rcases open_slice hT h with ⟨hcs, _⟩ | ⟨x, len, c, m, n, D, Pl, hcs, _, hl, hm, hmm, hxx, hel⟩
  · simp only [List.cons.injEq, and_true] at hcs
    exact ⟨none, [], 0, hcs, Nat.zero_le _, Nat.zero_le _, by simp, fun i hi => by simp at hi⟩
  · simp only [List.cons.injEq, and_true] at hcs
    simp only [if_true] at hmm
    rw [hxx] at hw
    obtain ⟨hw1, hw2⟩ := wb_slice hT hw
    rw [List.length_map, List.length_range] at hw1
    obtain ⟨b, off, spot⟩ := x
    rw [hc] at hel
    have hcell : ∀ i, ∃ y : List Value × α, i < len → p y.1 y.2 ∧ y.1.length = cells ∧ ∀ j, j < cells → W.cell? (((⟨b, off, spot⟩ : Addr).add (i * cells)).add j) = y.1[j]? := by
      intro i
      by_cases hi : i < len
      · obtain ⟨cs', q1, q2⟩ := hel i (by omega)
        obtain ⟨_, q3, q4⟩ := World.cells?_some q1
        obtain ⟨a, ha⟩ := hp _ _ _ q2 q3 (hw2 _ (List.mem_map.2 ⟨i, List.mem_range.2 hi, rfl⟩))
        exact ⟨(cs', a), fun _ => ⟨ha, q3, fun j hj => q4 j hj⟩⟩
      · exact ⟨([], default), fun h => absurd h hi⟩
    obtain ⟨y, hy⟩ := Classical.axiomOfChoice hcell
    by_cases h0 : len = 0
    · subst h0
      exact ⟨_, [], c, hcs, Nat.zero_le _, Nat.zero_le _, by simp, fun i hi => by simp at hi⟩
    have hspot : spot = none := by
      obtain ⟨_, hD1, hD⟩ := hy 0 (by omega)
      have h2 := hD 0 h1
      rw [List.getElem?_eq_getElem (by omega)] at h2
      simpa [Addr.add] using World.cell?_spot h2
    subst hspot
    refine ⟨_, (List.range len).map (fun i => (y i).2), c, by simpa using hcs, by simp; omega, by simp; omega, by simpa using hw1, ?_⟩
    intro i hi
    have hi' : i < len := by simpa using hi
    obtain ⟨q1, q2, q3⟩ := hy i hi'
    refine ⟨b, off, (y i).1, rfl, ?_, q2, fun j hj => ?_⟩
    · have : ((List.range len).map (fun i => (y i).2)).getD i default = (y i).2 := by simp [hi']
      rw [this]; exact q1
    · have := q3 j hj
      simpa only [add_plain] using this
theorem open_raws_w {fuel : Nat} {v : Value} {x : DataW H × List MemPlace} (h : DataW.trod enc Try.prog W 0 (fun _ => true) true fuel 33 [v] = some x) (hw : Wb x.1 33) :
    ∃ (a : Option Addr) (l : List Raw) (c : Nat), v = .slice a l.length c ∧ l.length ≤ maxLen ∧ l.length * 32 ≤ reachBytes ∧ LR W a l := by
  obtain ⟨a, l, c, h1, h2, _, h4, h3⟩ := @open_rows_w H enc W Raw ⟨nought⟩ _ _ 4 rawP Try.underlying33 Try.cellsRaw (by omega) (fun f cs x h _ _ => open_raw f cs x h) _ _ _ h hw
  refine ⟨a, l, c, h1, h2, (Try.bytesRaw ▸ h4), fun i hi => ?_⟩
  obtain ⟨b, off, cs, e, ⟨p0, p1, p2, p3⟩, _, hc⟩ := h3 i hi
  exact ⟨b, off, e, (hc 0 (by omega)).trans p0, (hc 1 (by omega)).trans p1, (hc 2 (by omega)).trans p2, (hc 3 (by omega)).trans p3⟩
def modPw (W : World) (cs : List Value) (m : Md) : Prop := ∃ a c, cs[0]? = some (.int .i64 m.addr) ∧ cs[1]? = some (.int .i64 m.id) ∧ cs[2]? = some (.slice a m.list.length c) ∧ LR W a m.list ∧ m.list.length ≤ maxLen ∧ m.list.length * 32 ≤ reachBytes
theorem open_model_w (fuel : Nat) (cs : List Value) (x : DataW H × List MemPlace) (h : DataW.trod enc Try.prog W 0 (fun _ => true) true fuel 35 cs = some x) (hw : Wb x.1 35) : ∃ m, modPw W cs m := by
  obtain ⟨xs, m, rfl, rfl, hlen, hxs, hf⟩ := DataW.trod_struct Try.underlying35 h
  have hx : xs.length = 3 := hxs
  have hcl : cs.length = 3 := hlen.trans Try.cellsModel
  obtain ⟨a, ha, _⟩ := open_int (o := 0) (hf 0 _ rfl) (by simp [hx])
  obtain ⟨b, hb, _⟩ := open_int (o := 1) (hf 1 _ rfl) (by simp [hx])
  have h2 : DataW.trod enc Try.prog W 0 (fun _ => true) true m 33 (List.take (Try.prog.cellsOf 33) (List.drop 2 cs)) = xs[2]? := hf 2 _ rfl
  rw [Try.cellsRaws, List.getElem?_eq_getElem (by omega)] at h2
  obtain ⟨u, hu, hu'⟩ := part_of (cs := cs) (o := 2) (by omega)
  rw [hu'] at h2
  obtain ⟨la, l, lc, rfl, hl, hb32, hL⟩ := open_raws_w h2 (wb_field Try.underlying35 hw (j := 2) rfl (by simp [hx]))
  exact ⟨⟨a, b, l⟩, la, lc, ha, hb, hu, hL, hl, hb32⟩
theorem open_models_w {fuel : Nat} {v : Value} {x : DataW H × List MemPlace} (h : DataW.trod enc Try.prog W 0 (fun _ => true) true fuel 22 [v] = some x) (hw : Wb x.1 22) :
    ∃ (a : Option Addr) (M : List Md) (c : Nat), v = .slice a M.length c ∧ M.length ≤ maxLen ∧ M.length ≤ c ∧ MRs W a M ∧ ∀ i, i < M.length → (gm M i).list.length * 32 ≤ reachBytes := by
  obtain ⟨a, l, c, h1, h2, h2', _, h3⟩ := @open_rows_w H enc W Md ⟨⟨0, 0, []⟩⟩ _ _ 3 (modPw W) Try.underlying22 Try.cellsModel (by omega) (fun f cs x h _ hw => open_model_w f cs x h hw) _ _ _ h hw
  refine ⟨a, l, c, h1, h2, h2', fun i hi => ?_, fun i hi => ?_⟩
  rotate_left
  · obtain ⟨b, off, cs, e, ⟨la, lc, p0, p1, p2, p3, p4, p5⟩, _, hc⟩ := h3 i hi
    exact p5
  obtain ⟨b, off, cs, e, ⟨la, lc, p0, p1, p2, p3, p4, _⟩, _, hc⟩ := h3 i hi
  exact ⟨b, off, la, lc, e, ⟨(hc 0 (by omega)).trans p0, (hc 1 (by omega)).trans p1, (hc 2 (by omega)).trans p2⟩, p3, p4⟩
theorem open_faults_w {fuel : Nat} {v : Value} {x : DataW H × List MemPlace} (h : DataW.trod enc Try.prog W 0 (fun _ => true) true fuel 23 [v] = some x) (hw : Wb x.1 23) :
    ∃ (a : Option Addr) (F : List Flt) (c : Nat), v = .slice a F.length c ∧ F.length ≤ maxLen ∧ F.length * 32 ≤ reachBytes ∧ FRs W a F := by
  obtain ⟨a, l, c, h1, h2, _, h4, h3⟩ := @open_rows_w H enc W Flt ⟨noF⟩ _ _ 4 fltP Try.underlying23 Try.cellsFault (by omega) (fun f cs x h _ _ => open_fault f cs x h) _ _ _ h hw
  refine ⟨a, l, c, h1, h2, (Try.bytesFault ▸ h4), fun i hi => ?_⟩
  obtain ⟨b, off, cs, e, ⟨p0, p1, p2, p3⟩, _, hc⟩ := h3 i hi
  exact ⟨b, off, e, (hc 0 (by omega)).trans p0, (hc 1 (by omega)).trans p1, (hc 2 (by omega)).trans p2, (hc 3 (by omega)).trans p3⟩
set_option maxRecDepth 100000 in
/-- a script: models, faults, acts -/
theorem open_script_w {v : Value} {t : TypeId} (hv : Value.okWide Try.prog W .any t 26 v) {x : DataW H × List MemPlace} (h0 : ∃ fuel, DataW.trod enc Try.prog W 0 (fun _ => true) true fuel 26 v.cells.toList = some x) (hw : Wb x.1 26) :
    ∃ am M cm af F cf al L cl, v = .agg #[.slice am (List.length (α := Md) M) cm, .slice af (List.length (α := Flt) F) cf, .slice al (List.length (α := Ac) L) cl] ∧ (M.length ≤ maxLen ∧ M.length ≤ cm ∧ MRs W am M) ∧ (F.length ≤ maxLen ∧ FRs W af F) ∧ L.length ≤ maxLen ∧ ARs W al L ∧ F.length * 32 ≤ reachBytes ∧ ∀ i, i < M.length → (gm M i).list.length * 32 ≤ reachBytes := by
  obtain ⟨cs, rfl, hcs⟩ := okWide_struct Try.underlying26 hv
  rw [Try.cellsScript] at hcs
  obtain ⟨fuel, h⟩ := h0
  simp only [Value.cells] at h
  obtain ⟨xs, m, rfl, rfl, hlen, hxs, hf⟩ := DataW.trod_struct Try.underlying26 h
  have hx : xs.length = 3 := hxs
  have h0 : DataW.trod enc Try.prog W 0 (fun _ => true) true m 22 (List.take (Try.prog.cellsOf 22) (List.drop 0 cs.toList)) = xs[0]? := hf 0 _ rfl
  have h1 : DataW.trod enc Try.prog W 0 (fun _ => true) true m 23 (List.take (Try.prog.cellsOf 23) (List.drop 1 cs.toList)) = xs[1]? := hf 1 _ rfl
  have h2 : DataW.trod enc Try.prog W 0 (fun _ => true) true m 24 (List.take (Try.prog.cellsOf 24) (List.drop 2 cs.toList)) = xs[2]? := hf 2 _ rfl
  rw [Try.cellsModels, List.getElem?_eq_getElem (by omega)] at h0
  rw [Try.cellsFaults, List.getElem?_eq_getElem (by omega)] at h1
  rw [Try.cellsActs, List.getElem?_eq_getElem (by omega)] at h2
  have hl3 : cs.toList.length = 3 := by simpa using hcs
  obtain ⟨u0, hu0, hu0'⟩ := part_of (cs := cs.toList) (o := 0) (by omega)
  obtain ⟨u1, hu1, hu1'⟩ := part_of (cs := cs.toList) (o := 1) (by omega)
  obtain ⟨u2, hu2, hu2'⟩ := part_of (cs := cs.toList) (o := 2) (by omega)
  rw [hu0'] at h0
  rw [hu1'] at h1
  rw [hu2'] at h2
  obtain ⟨am, M, cm, rfl, q1, q2, q3, q8⟩ := open_models_w h0 (wb_field Try.underlying26 hw (j := 0) rfl (by simp [hx]))
  obtain ⟨af, F, cf, rfl, q4, q9, q5⟩ := open_faults_w h1 (wb_field Try.underlying26 hw (j := 1) rfl (by simp [hx]))
  obtain ⟨al, L, cl, rfl, q6, q7⟩ := open_acts h2
  refine ⟨am, M, cm, af, F, cf, al, L, cl, ?_, ⟨q1, q2, q3⟩, ⟨q4, q5⟩, q6, q7, q9, q8⟩
  congr 1
  apply Array.ext'
  apply List.ext_getElem?
  intro i
  match i with
  | 0 => simpa using hu0
  | 1 => simpa using hu1
  | 2 => simpa using hu2
  | i + 3 => rw [List.getElem?_eq_none (by omega), List.getElem?_eq_none (by simp)]
end
set_option maxRecDepth 100000 in
theorem busExact_lifted (os : Os) (started : os.Started) (H : Type) (enc : TypeId × Value → H) :
    ReturnsInHanded {} Try.checked os 3 .any (Rows.busExactSpec.pre6 enc Try.prog Try.f3 Rows.busExactRow.domain false) (Rows.busExactSpec.post enc Try.prog Try.f3 false true false false) := by
  refine returnsInHanded_of_change_sized (C := Try.checked) Try.own started (by kernel_rfl) Try.func3
    (ChangeSpec.witness6 (enc := enc) (C := Try.checked) false ⟨#[], #[.agg #[.slice none 0 0, .slice none 0 0, .slice none 0 0]], []⟩ 8 (by kernel_rfl) (by kernel_rfl) (by kernel_rfl) (by kernel_rfl)) ?_
  intro W base args ds gs before hval0 hW hcnd hwt _
  have hval : ∀ (j : Nat) t v, Try.f3.params[j]? = some t → args[j]? = some v → Value.okWide Try.prog W .any base t v := hval0
  have hW' := hW
  obtain ⟨p, q, hA0, hV, rfl, hfz, hnd⟩ := hW
  have hA : DataW.TrodAll enc Try.prog W 0 (fun _ => true) true Try.f3.params.toList args.toList ds p := hA0
  rw [Try.params3] at hA hval
  obtain ⟨v0, d0, rfl, rfl, h0⟩ := trodAll_one hA
  obtain ⟨rfl, rfl⟩ := trodVars_none hV
  have lt0 : ∀ x ∈ p, x.block < W.heap.size := by obtain ⟨m, hm⟩ := h0; exact DataW.trod_lt m _ _ _ hm
  have hwb : Wb d0 26 := fun n hn => by
    have := List.all_eq_true.1 hwt n (DataW.weights_mem_each (j := 0) rfl rfl n hn)
    simpa using this
  obtain ⟨am, M, cm, af, F, cf, al, L, cl, rfl, ⟨hM1, hM2, hM3⟩, ⟨hF1, hF2⟩, hL1, hL2, hS1, hS2⟩ := open_script_w (hval 0 26 v0 rfl rfl) h0 hwb
  have hs : F.length ≤ 140737488355328 ∧ ∀ i, i < M.length → (gm M i).list.length ≤ 140737488355328 := ⟨by unfold reachBytes at hS1; omega, fun i hi => by have q := hS2 i hi; unfold reachBytes at q; omega⟩
  clear hA0 hval0
  have walk : Calls Try.prog 3 #[.agg #[.slice am M.length cm, .slice af F.length cf, .slice al L.length cl]] W fun e w' => e = .returned (.bool true) ∧ Ext W w' := busexact_any W am M cm af F cf al L cl hM3 hM1 hF2 hF1 hL2 hs
  refine walk.mono fun e W' ⟨he, bel0⟩ => ?_
  have bel : Below W.heap.size W W' := bel0
  subst he
  exact ⟨_, rfl, _, _, _, [], _, [], hW', trodAll_mk1 (shut_bool Try.underlying4 _), trodAll_mk1 (Below.trod Try.laidOut (by kernel_rfl) (of_decide_eq_true (by kernel_rfl)) h0 bel lt0), rfl, bel.frame _, fun h => by cases h⟩

/-- BusExact holds for every script: what the bus and the reference answer is the same, at every act. -/
theorem busExact_holds : Rows.BusExactSaid :=
  OpenClaim.holds_of_wide 3 Try.f3 rfl rfl rfl rfl rfl rfl rfl ⟨rfl, rfl, rfl, rfl, rfl⟩ rfl rfl rfl rfl rfl (by kernel_rfl) Try.func3 (by kernel_rfl)
    (of_decide_eq_true (by kernel_rfl)) (by unfold Func.isWrapper; first | (rw [if_pos (by decide +kernel)]; kernel_rfl) | (rw [if_neg (by decide +kernel)]; exact ⟨rfl, rfl⟩))
    (fun os started H enc _ => busExact_lifted os started H enc)
#print axioms busExact_holds
end Go.Proofs.Ytfgljkeohoffiaa
