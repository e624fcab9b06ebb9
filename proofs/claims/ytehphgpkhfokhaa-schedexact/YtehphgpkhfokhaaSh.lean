/- sched: Run. -/
import Derived.Test.YtehphgpkhfokhaaSg
import Derived.Deep.CutBlock
namespace Go.Proofs.Ytehphgpkhfokhaa
open Go.RowKit Go.Conc
/-- what a run tells, by its number and its task -/
abbrev Told := Nat → Nat → List Int × Int
def stepR (told : Told) (k i : Nat) (s : St) : St := heeded { s with A := s.A.set i false } i (told k i).1 (told k i).2
/-- so many runs: which tasks, what is left, the next run's number -/
def runs (told : Told) : Nat → Nat → St → List Int × St × Nat
  | 0, k, s => ([], s, k)
  | m + 1, k, s => match lo s.A with
    | none => ([], s, k)
    | some i => ((i : Int) :: (runs told m (k + 1) (stepR told k i s)).1, (runs told m (k + 1) (stepR told k i s)).2)
theorem runs_none {told : Told} {m k : Nat} {s : St} (h : lo s.A = none) : runs told m k s = ([], s, k) := by
  cases m with
  | zero => rfl
  | succ m => unfold runs; rw [h]
theorem runs_some {told : Told} {m k i : Nat} {s : St} (h : lo s.A = some i) : runs told (m + 1) k s = ((i : Int) :: (runs told m (k + 1) (stepR told k i s)).1, (runs told m (k + 1) (stepR told k i s)).2) := by
  show (match lo s.A with | none => _ | some i => _) = _
  rw [h]
theorem stepR_len (told : Told) (k i : Nat) (s : St) : (stepR told k i s).A.length = s.A.length := by unfold stepR; rw [heeded_len]; simp
theorem stepR_T (told : Told) (k i : Nat) (s : St) : (stepR told k i s).T ≤ s.T + 1 := by unfold stepR; exact heeded_T _ _ _ _
/-- a table in a run: what it owns, and what the runs' function owns, has turned; its answer so far is the row r -/
structure Rn (t b : Nat) (c : Nat → Nat) (v v' : Value) (s s' : St) (Q : Nat → Prop) (I : Nat → World → Prop) (w wr : World) (k : Nat) (r : Value) (l : List Int) : Prop where
  tab : Tab wr t b c v' s'
  turn : Turn (fun q _ => OwnT t b c s.A.length v q ∨ Q q) w wr
  own : ∀ q, v'.ownBlock = some q → v.ownBlock = some q ∨ w.heap.size ≤ q
  len : s'.A.length = s.A.length
  inv : I k wr
  row : wr.ownsRow w.heap.size Ei 1 r l.length (nums l)
  far : ∀ g, r.ownBlock = some g → ¬ OwnT t b c s.A.length v' g
/-- what is asked of the runs' function beside its contract -/
structure Fair (t b : Nat) (c : Nat → Nat) (v : Value) (n : Nat) (Q : Nat → Prop) (I : Nat → World → Prop) (w : World) : Prop where
  q : ∀ k, Q k → ¬ OwnT t b c n v k ∧ k < w.heap.size
  i : ∀ k w1 w2 (P : Nat → Prop), I k w1 → Turn (fun q _ => P q) w1 w2 → w.heap.size ≤ w1.heap.size → (∀ q, P q → q < w.heap.size → OwnT t b c n v q) → I k w2
section
variable {t b : Nat} {c : Nat → Nat} {v v' v'' : Value} {s s' s'' : St} {Q : Nat → Prop} {I : Nat → World → Prop} {w wr w2 : World} {k : Nat} {r : Value} {l : List Int}
theorem Rn.back (h : Rn t b c v v' s s' Q I w wr k r l) {q : Nat} (o : OwnT t b c s.A.length v' q) (hq : q < w.heap.size) : OwnT t b c s.A.length v q := by
  rcases o with o | o | o | o
  · exact .inl o
  · exact .inr (.inl o)
  · exact .inr (.inr (.inl o))
  · rcases h.own q o with z | z
    · exact .inr (.inr (.inr z))
    · omega
theorem Rn.does (h : Rn t b c v v' s s' Q I w wr k r l) (f : Fair t b c v s.A.length Q I w) (d : Does t b c v' v'' s' s'' wr w2) : Rn t b c v v'' s s'' Q I w w2 k r l := by
  have hT : Turn (fun q _ => OwnT t b c s.A.length v' q) wr w2 := by have := d.turn; rw [h.len] at this; exact this
  refine ⟨d.tab, h.turn.trans hT (fun i hi _ o => .inl (h.back o hi)), fun q hq => ?_, d.len.trans h.len, f.i k wr w2 _ h.inv hT h.turn.size (fun q o hq => h.back o hq), row_far h.row hT (fun g _ hg => h.far g hg), fun g hg o => ?_⟩
  · rcases d.own q hq with z | z
    · exact h.own q z
    · have := h.turn.size; exact .inr (by omega)
  · rcases o with o | o | o | o
    · exact h.far g hg (.inl o)
    · exact h.far g hg (.inr (.inl o))
    · exact h.far g hg (.inr (.inr (.inl o)))
    · rcases d.own g o with z | z
      · exact h.far g hg (.inr (.inr (.inr z)))
      · have := (h.row.lt g hg).2; omega
theorem Rn.asks (h : Rn t b c v v' s s' Q I w wr k r l) (f : Fair t b c v s.A.length Q I w) (d : Turn (fun q _ => Q q) wr w2) (i2 : I (k + 1) w2) : Rn t b c v v' s s' Q I w w2 (k + 1) r l := by
  refine ⟨h.tab.far d (fun q o o' => ?_), h.turn.trans d (fun _ _ _ o => .inr o), h.own, h.len, i2, row_far h.row d (fun g _ hg o => ?_), h.far⟩
  · have := f.q q o'
    rw [h.len] at o
    exact this.1 (h.back o this.2)
  · have := (f.q g o).2; have := (h.row.lt g hg).1; omega
theorem Rn.app (h : Rn t b c v v' s s' Q I w wr k r l) (f : Fair t b c v s.A.length Q I w) {g cap : Nat} {x : Int} (T : TypeId) (hg : (wr.alloc (.cells #[.int .i64 x] T)).grownBy w2 r.ownBlock) (hr : w2.ownsRow w.heap.size Ei 1 (.slice (some ⟨g, 0, none⟩) (l.length + 1) cap) (l.length + 1) (nums l ++ [.int .i64 x])) (hgb : r.ownBlock = some g ∨ g = wr.heap.size + 1) :
    Rn t b c v v' s s' Q I w w2 k (.slice (some ⟨g, 0, none⟩) (l ++ [x]).length cap) (l ++ [x]) := by
  have tG : Turn (fun q _ => r.ownBlock = some q) wr w2 := ((Turn.refl _ wr).alloc _).grown hg (fun q hq => .inl (fun _ => hq))
  have hw : ∀ q, r.ownBlock = some q → w.heap.size ≤ q := fun q hq => (h.row.lt q hq).1
  refine ⟨h.tab.far tG (fun q o o' => h.far q o' (by rw [← h.len]; exact o)), h.turn.trans tG (fun i hi _ o => ?_), h.own, h.len, f.i k wr w2 _ h.inv tG h.turn.size (fun q o hq => ?_), ?_, fun q hq o => ?_⟩
  · have := hw i o; omega
  · have := hw q o; omega
  · rw [nums_app, show (l ++ [x]).length = l.length + 1 by simp]
    exact hr
  · simp only [Value.ownBlock, Option.some.injEq] at hq
    subst hq
    rcases hgb with z | z
    · exact h.far g z o
    · have := h.tab.lt g (by rw [h.len]; exact o); omega
end
/-- what the function that is handed over does, as it is asked -/
def Asks (fv : Value) (told : Told) (Q : Nat → Prop) (I : Nat → World → Prop) (n : Nat) (w : World) : Prop :=
  ∀ k i wr, I k wr → i < n → w.heap.size ≤ wr.heap.size → Calls Try.prog 38 #[fv, .int .i64 (i : Nat)] wr fun e w' => ∃ a cap, e = .returned (.tuple #[.slice a (told k i).1.length cap, .int .i64 (told k i).2]) ∧ RdF w' (fun q => q < wr.heap.size) (.slice a (told k i).1.length cap) (told k i).1 ∧ I (k + 1) w' ∧ Turn (fun q _ => Q q) wr w'
theorem RdF.mono {w : World} {O O' : Nat → Prop} {u : Value} {l : List Int} (h : RdF w O u l) (hO : ∀ q, O' q → O q) : RdF w O' u l := by
  obtain ⟨a, cap, e, h⟩ := h
  refine ⟨a, cap, e, fun j hj => ?_⟩
  obtain ⟨b, off, h1, h2, h3⟩ := h j hj
  exact ⟨b, off, h1, fun o => h2 (hO b o), h3⟩
theorem run_bad (most : Int) (fv : Value) (t : Nat) (w : World) (hm : ¬ (0 ≤ most ∧ most ≤ 256)) :
    Calls Try.prog 14 #[.pointer (some ⟨t, 0, none⟩), .int .i64 most, fv] w fun e w' => e = .returned (.tuple #[.slice none 0 0, .int .i64 1]) ∧ w' = w := by
  by_cases h1 : most < 0
  · go_enter Try.func14, Try.ntmps14
    go_wp2_with fail
    exact bodyPost_ret (v := .tuple #[.slice none 0 0, .int .i64 1]) (by simp [results, Try.results14, go_sem]) rfl ⟨rfl, rfl⟩
  · have h2 : most > 256 := by omega
    clear hm
    go_enter Try.func14, Try.ntmps14
    go_wp2_with fail
    exact bodyPost_ret (v := .tuple #[.slice none 0 0, .int .i64 1]) (by simp [results, Try.results14, go_sem]) rfl ⟨rfl, rfl⟩
set_option maxRecDepth 20000 in
set_option maxHeartbeats 4000000 in
theorem run_any {t b : Nat} {c : Nat → Nat} {v : Value} {s : St} {Q : Nat → Prop} {I : Nat → World → Prop} (most : Nat) (fn : Fn) (fa fc : Array Value) (told : Told) (k0 : Nat) (w : World) (hm : most ≤ 256) (h : Tab w t b c v s) (hT : s.T + most ≤ 100000) (f : Fair t b c v s.A.length Q I w) (hI : I k0 w) (ha : Asks (.func fn fa fc) told Q I s.A.length w) (hl : ∀ k i, (told k i).1.length ≤ 100000 ∧ -9223372036854775808 ≤ (told k i).2 ∧ (told k i).2 ≤ 9223372036854775807) :
    Calls Try.prog 14 #[.pointer (some ⟨t, 0, none⟩), .int .i64 most, .func fn fa fc] w fun e w' => ∃ a cap v', e = .returned (.tuple #[.slice a (runs told most k0 s).1.length cap, .int .i64 0]) ∧ Rn t b c v v' s (runs told most k0 s).2.1 Q I w w' (runs told most k0 s).2.2 (.slice a (runs told most k0 s).1.length cap) (runs told most k0 s).1 := by
  obtain ⟨i0, hi, hz0, hz1, hz2⟩ := info_parts Try.infoInt
  have hnil : ∀ w, (binOp .eql 43 (.func fn fa fc) .nilFunc).run Try.prog w = .ok (.bool false) w := fun _ => rfl
  have H0 : Hid (Rn t b c v v s s Q I w w k0 (.slice none 0 0) []) := ⟨h, Turn.refl _ _, fun _ z => .inl z, rfl, hI, World.ownsRow_nil _ _ _ _, fun g hg => by simp [Value.ownBlock] at hg⟩
  have HF : Hid (Fair t b c v s.A.length Q I w) := f
  have HA : Hid (Asks (.func fn fa fc) told Q I s.A.length w) := ha
  have HL : Hid (∀ k i, (told k i).1.length ≤ 100000 ∧ -9223372036854775808 ≤ (told k i).2 ∧ (told k i).2 ≤ 9223372036854775807) := hl
  have HT : Hid (s.T + most ≤ 100000) := hT
  have h1 : ¬ (most : Int) < 0 := by omega
  have h2 : ¬ (most : Int) > 256 := by omega
  clear h hI f ha hl hT
  go_enter Try.func14, Try.ntmps14
  go_wp2_with fail
  have HG : Hid (runs told most k0 s = ([] ++ (runs told (most - 0) k0 s).1, (runs told (most - 0) k0 s).2)) := rfl
  go_loopw [8] (fun s8 wr => ∃ (a : Option Addr) (cap k : Nat) (v' : Value) (s' : St) (l : List Int), s8 = .slice a l.length cap ∧ l.length ≤ most ∧ Hid (s'.T ≤ s.T + l.length ∧ runs told most k0 s = (l ++ (runs told (most - l.length) k s').1, (runs told (most - l.length) k s').2) ∧ Rn t b c v v' s s' Q I w wr k (.slice a l.length cap) l)) (fun s8 _ => most - lenV s8)
  case atStart => exact ⟨none, 0, k0, v, s, [], rfl, Nat.zero_le _, by simp, HG.out, H0.out⟩
  case round =>
    obtain ⟨a, cap, k, v1, s1, l, rfl, hk, hR⟩ := hrel
    clear H0 HG
    by_cases hlt : l.length < most
    · have hlt' : (l.length : Int) < (most : Int) := by omega
      have HFi := first_any wr hR.out.2.2.tab
      go_upto_region 6 with (go_at_call 37; refine HFi.mono ?_; intro e w1 hfi; rcases hfi with ⟨hlo, rfl, hw1⟩ | ⟨i, hlo, rfl, hil, d1⟩)
      · subst hw1
        have HE : Hid (∃ v', Rn t b c v v' s (runs told most k0 s).2.1 Q I w w1 (runs told most k0 s).2.2 (.slice a l.length cap) (runs told most k0 s).1 ∧ (runs told most k0 s).1.length = l.length) := by
          obtain ⟨_, q2, q3⟩ := hR.out
          rw [runs_none hlo] at q2
          rw [q2]
          simp only [List.append_nil]
          exact ⟨v1, q3, trivial⟩
        clear hR HF HA HL HT hlo HFi
        go_wp2_with fail
        obtain ⟨v', h1, h2⟩ := HE.out
        exact bodyPost_ret (v := .tuple #[.slice a l.length cap, .int .i64 0]) (by simp [results, Try.results14, go_sem]) rfl (by rw [h2]; first | exact ⟨a, cap, v', rfl, h1⟩ | exact ⟨a, cap, rfl, v', h1⟩)
      · obtain ⟨q1, q2, q3⟩ := hR.out
        have R1 := q3.does HF.out d1
        have hlen1 := q3.len
        have hrun : runs told (most - l.length) k s1 = ((i : Int) :: (runs told (most - (l.length + 1)) (k + 1) (stepR told k i s1)).1, (runs told (most - (l.length + 1)) (k + 1) (stepR told k i s1)).2) := by
          rw [show most - l.length = (most - (l.length + 1)) + 1 by omega]
          exact runs_some hlo
        have HQ : Hid ((stepR told k i s1).T ≤ s.T + (l ++ [(i : Int)]).length ∧ runs told most k0 s = ((l ++ [(i : Int)]) ++ (runs told (most - (l ++ [(i : Int)]).length) (k + 1) (stepR told k i s1)).1, (runs told (most - (l ++ [(i : Int)]).length) (k + 1) (stepR told k i s1)).2)) := by
          have hT := stepR_T told k i s1
          have e1 : (l ++ [(i : Int)]).length = l.length + 1 := by simp
          rw [e1]
          refine ⟨by omega, ?_⟩
          rw [q2, hrun]
          simp
        have hiA : i < s.A.length := by omega
        have hTm : s1.T + 1 ≤ 100000 := by have := HT.out; omega
        have row1 := R1.row
        have hb : w.heap.size ≤ w1.heap.size + 1 := by have := R1.turn.size; omega
        have h63 : l.length + 1 ≤ maxLen := by unfold maxLen; omega
        have hby : (l.length + 1) * 8 ≤ 140737488355328 := by omega
        have HA1 : Hid (∀ w2, I k w2 → w.heap.size ≤ w2.heap.size → Calls Try.prog 38 #[.func fn fa fc, .int .i64 (i : Nat)] w2 fun e w' => ∃ a cap, e = .returned (.tuple #[.slice a (told k i).1.length cap, .int .i64 (told k i).2]) ∧ RdF w' (fun q => q < w2.heap.size) (.slice a (told k i).1.length cap) (told k i).1 ∧ I (k + 1) w' ∧ Turn (fun q _ => Q q) w2 w') := fun w2 h h' => HA.out k i w2 h hiA h'
        have HHe : Hid (∀ (w2 w3 : World) (r : Value) (a3 : Option Addr) (cap3 : Nat), Rn t b c v v1 s { s1 with A := s1.A.set i false } Q I w w2 k r (l ++ [(i : Int)]) → RdF w3 (fun q => q < w2.heap.size) (.slice a3 (told k i).1.length cap3) (told k i).1 → I (k + 1) w3 → Turn (fun q _ => Q q) w2 w3 → Calls Try.prog 39 #[.pointer (some ⟨t, 0, none⟩), .int .i64 i, .slice a3 (told k i).1.length cap3, .int .i64 (told k i).2] w3 fun e w' => (∃ x, e = .returned x) ∧ ∃ v', Hid (Rn t b c v v' s (stepR told k i s1) Q I w w' (k + 1) r (l ++ [(i : Int)]))) := fun w2 w3 r a3 cap3 R2 hrd hi3 t3 => by
          have R3 := R2.asks HF.out t3 hi3
          have hl := HL.out k i
          refine (heed_any i _ _ (told k i).2 w3 R3.tab (hrd.mono fun q o => R2.tab.lt q o) (by simpa using hil) (by show s1.T < 100000; omega) hl.1 hl.2).mono ?_
          rintro e w' ⟨he, v', d⟩
          exact ⟨he, v', R3.does HF.out d⟩
        clear hR q1 q2 q3 hrun HL HT HA HFi d1 hlo hTm
        have HR1 : Hid (Rn t b c v v1 s { s1 with A := s1.A.set i false } Q I w w1 k (.slice a l.length cap) l) := R1
        clear R1
        go_upto_region 8 with (at_builtin; refine wpList_append_lies _ rfl (.tmp 34) (.tmp 36) 40 rfl w.heap.size Ei i0 (.int .i64 0) 1 8 Try.underlying40 hi hz0 hz1 hz2 rfl (by decide) _ l.length (nums l) rfl (by exact row1.alloc _) ⟨w1.heap.size, 0, none⟩ 1 1 [.int .i64 i] rfl rfl (by exact one_new w1 _ _) (by simp [Value.oneCell']) (by decide) h63 hby (by simpa using hb) (w1.heap.size + 1) (by simp) ?_; intro g' cap' w2 hown' hg' hgb hgl; have R2 : Hid (Rn t b c v v1 s { s1 with A := s1.A.set i false } Q I w w2 k (.slice (some ⟨g', 0, none⟩) (l ++ [(i : Int)]).length cap') (l ++ [(i : Int)])) := HR1.out.app HF.out _ hg' hown' hgb; clear hown' hg' hgb hgl)
        have HA3 := HA1.out w2 R2.out.inv R2.out.turn.size
        have hll : (l ++ [(i : Int)]).length = l.length + 1 := by simp
        clear HR1 HA1 row1 h63 hby hb
        go_wp2_with (first | (go_at_call 38; refine HA3.mono ?_; rintro e w3 ⟨a3, cap3, rfl, hrd, hi3, t3⟩; have HHe4 := HHe.out w2 w3 _ a3 cap3 R2.out hrd hi3 t3; clear hrd hi3 t3) | (go_at_call 39; refine HHe4.mono ?_; rintro e w4 ⟨⟨x4, rfl⟩, v4, R4⟩))
        go_roundw
        case measure => simp [lenV]; omega
        case rel => exact ⟨_, cap', k + 1, v4, stepR told k i s1, l ++ [(i : Int)], by rw [hll], by rw [hll]; omega, HQ.out.1, HQ.out.2, R4.out⟩
    · have hkn : ¬ (l.length : Int) < (most : Int) := by omega
      have hke : most - l.length = 0 := by omega
      have HE : Hid (∃ v', Rn t b c v v' s (runs told most k0 s).2.1 Q I w wr (runs told most k0 s).2.2 (.slice a l.length cap) (runs told most k0 s).1 ∧ (runs told most k0 s).1.length = l.length) := by
        obtain ⟨_, q2, q3⟩ := hR.out
        rw [hke] at q2
        rw [q2]
        simp only [runs, List.append_nil]
        exact ⟨v1, q3, trivial⟩
      clear hR HF HA HL HT hke
      go_wp2_with fail
      obtain ⟨v', h1, h2⟩ := HE.out
      exact bodyPost_ret (v := .tuple #[.slice a l.length cap, .int .i64 0]) (by simp [results, Try.results14, go_sem]) rfl (by rw [h2]; first | exact ⟨a, cap, v', rfl, h1⟩ | exact ⟨a, cap, rfl, v', h1⟩)
end Go.Proofs.Ytehphgpkhfokhaa
