/- sched: Tick, heed. -/
import Derived.Test.YtehphgpkhfokhaaSe
namespace Go.Proofs.Ytehphgpkhfokhaa
open Go.RowKit Go.Conc
theorem take_any {p : Nat} {v : Value} {S : List Tm} {T : Int} (now : Int) (w : World) (h : Wh w p v S T) (hT : T ≤ 100000) :
    Calls Try.prog 43 #[.pointer (some ⟨p, 1, none⟩), .int .i64 now] w fun e w' => ∃ a cap, e = .returned (.slice a (due now S).length cap) ∧ w'.ownsRow w.heap.size Ea 2 (.slice a (due now S).length cap) (due now S).length (flat2 (due now S)) ∧ ∃ v', Wh w' p v' (left now S) T ∧ Goes p v v' w w' ∧ v'.ownBlock = v.ownBlock := by
  obtain ⟨xs, h, hw⟩ := h
  refine (take_raw now w h hw hT).mono ?_
  rintro e w' ⟨r, rfl, q1, ⟨v', ys, q2, q3, q4⟩, q5⟩
  obtain ⟨a, cap, rfl, _⟩ := row_shape q1
  exact ⟨a, cap, rfl, q1, v', ⟨ys, q2, q3⟩, ⟨q5, fun k hk => .inl (by rw [← q4]; exact hk)⟩, q4⟩
theorem row2 {w : World} {B : Nat} {a : Option Addr} {cap : Nat} {S : List Tm} (h : w.ownsRow B Ea 2 (.slice a S.length cap) S.length (flat2 S)) {j : Nat} (hj : j < S.length) : ∃ g, B ≤ g ∧ a = some ⟨g, 0, none⟩ ∧ w.cell? ⟨g, j * 2, none⟩ = some (.int .i64 (gt S j).1) ∧ w.cell? ⟨g, j * 2 + 1, none⟩ = some (.int .i64 (gt S j).2.1) := by
  obtain ⟨g, cap', e, _, _⟩ := h.form (by omega)
  have hB := (h.lt g (by rw [e]; rfl)).1
  simp only [Value.slice.injEq, true_and] at e
  obtain ⟨rfl, rfl⟩ := e
  obtain ⟨f0, f1⟩ := flat2_at S j hj
  exact ⟨g, hB, rfl, by rw [h.cellAt _ (by omega)]; exact f0, by rw [h.cellAt _ (by omega)]; exact f1⟩
/-- the timers of D can be read, in a row that is new -/
def RdT (w : World) (B : Nat) (a : Option Addr) (D : List Tm) : Prop := ∀ j, j < D.length → ∃ g, B ≤ g ∧ a = some ⟨g, 0, none⟩ ∧ w.cell? ⟨g, j * 2, none⟩ = some (.int .i64 (gt D j).1) ∧ w.cell? ⟨g, j * 2 + 1, none⟩ = some (.int .i64 (gt D j).2.1)
theorem RdT.turn {w w' : World} {B : Nat} {a : Option Addr} {D : List Tm} (h : RdT w B a D) {P : Nat → Prop} (t : Turn (fun k _ => P k) w w') (hP : ∀ k, P k → k < B) : RdT w' B a D := fun j hj => by
  obtain ⟨g, h1, h2, h3, h4⟩ := h j hj
  have hn : ¬ P g := fun o => by have := hP g o; omega
  exact ⟨g, h1, h2, t.keepc hn h3, t.keepc hn h4⟩
theorem RdT.ext {w w' : World} {B : Nat} {a : Option Addr} {D : List Tm} (h : RdT w B a D) (x : Ext w w') : RdT w' B a D := h.turn (P := fun _ => False) (Turn.of_ext x) (fun _ k => k.elim)
/-- tasks awoken one by one -/
def wkAll (A : List Bool) (l : List Int) : List Bool := l.foldl wk A
theorem wkAll_len : ∀ (l : List Int) (A : List Bool), (wkAll A l).length = A.length
  | [], _ => rfl
  | i :: l, A => by
    show (wkAll (wk A i) l).length = A.length
    rw [wkAll_len l, wk_len]
theorem wkAll_app (A : List Bool) (l m : List Int) : wkAll A (l ++ m) = wkAll (wkAll A l) m := List.foldl_append
def ids (S : List Tm) : List Int := S.map (fun t => t.1)
theorem ids_take {S : List Tm} {j : Nat} (hj : j < S.length) : ids (S.take (j + 1)) = ids (S.take j) ++ [(gt S j).1] := by
  unfold ids
  rw [List.take_add_one, gt_at hj, Option.toList_some, List.map_append]; rfl
/-- what a tick makes of a table -/
def ticked (s : St) (n : Int) : St := ⟨wkAll s.A (ids (due (s.now + n) s.S)), left (s.now + n) s.S, s.T, s.now + n⟩
def tickOk (s : St) (n : Int) : Prop := 0 ≤ n ∧ n ≤ 1000 ∧ s.now + n ≤ 1099511627776
section
variable {t b : Nat} {c : Nat → Nat} {v : Value} {s : St}
set_option maxHeartbeats 1000000 in
theorem tick_bad (n : Int) (w : World) (h : Tab w t b c v s) (hn : ¬ tickOk s n) :
    Calls Try.prog 24 #[.pointer (some ⟨t, 0, none⟩), .int .i64 n] w fun e w' => e = .returned (.int .i64 1) ∧ w' = w := by
  have HL := left_any w h
  unfold tickOk at hn
  by_cases h1 : n < 0
  · clear hn h
    go_enter Try.func24, Try.ntmps24
    go_wp2_with fail
    go_ret
    exact ⟨rfl, rfl⟩
  · by_cases h2 : n > 1000
    · clear hn h
      go_enter Try.func24, Try.ntmps24
      go_wp2_with fail
      go_ret
      exact ⟨rfl, rfl⟩
    · have h3 : n > 1099511627776 - s.now := by omega
      clear hn h
      generalize 1099511627776 - s.now = L at *
      go_enter Try.func24, Try.ntmps24
      go_wp2_with (go_at_call 42; refine HL.mono ?_; rintro e wx ⟨rfl, hwx⟩; have hwy := hwx.symm; clear hwx; subst hwy)
      go_ret
      exact ⟨rfl, rfl⟩
theorem field_api (x y : Int) (w : World) : (Instr.field 82 (.agg #[.int .i64 x, .int .i64 y]) 0).run Try.prog w = .ok (.int .i64 x) w := rfl
set_option maxRecDepth 20000 in
set_option maxHeartbeats 2000000 in
theorem tick_any (n : Int) (w : World) (h : Tab w t b c v s) (hn : tickOk s n) (hT : s.T ≤ 100000) :
    Calls Try.prog 24 #[.pointer (some ⟨t, 0, none⟩), .int .i64 n] w fun e w' => e = .returned (.int .i64 0) ∧ ∃ v', Does t b c v v' s (ticked s n) w w' := by
  have HL := left_any w h
  obtain ⟨n1, n2, n3⟩ := hn
  have h1 : ¬ n < 0 := by omega
  have h2 : ¬ n > 1000 := by omega
  have h3 : ¬ n > 1099511627776 - s.now := by omega
  have c3 := h.c3
  have f3 := h.f3
  have hnw := h.nw
  have d1 := h.time (s.now + n) ⟨by omega, n3⟩
  have HTk0 : Hid (∀ m, Calls Try.prog 43 #[.pointer (some ⟨t, 1, none⟩), .int .i64 (s.now + n)] ((w.setCell ⟨t, 3, none⟩ (.int .i64 (s.now + n))).drewN m) fun e w' => ∃ a cap, e = .returned (.slice a (due (s.now + n) s.S).length cap) ∧ ∃ v', Hid (Does t b c v v' s ⟨s.A, left (s.now + n) s.S, s.T, s.now + n⟩ w w' ∧ RdT w' w.heap.size a (due (s.now + n) s.S) ∧ v'.ownBlock = v.ownBlock)) := fun m => by
    have dm := d1.ext (drewN_ext (w := w.setCell ⟨t, 3, none⟩ (.int .i64 (s.now + n))) m)
    refine (take_any (s.now + n) _ dm.tab.wh hT).mono ?_
    rintro e w' ⟨a, cap, rfl, q1, v', q2, q3, q4⟩
    refine ⟨a, cap, rfl, v', dm.trans (dm.tab.goes q3 q2), fun j hj => ?_, q4⟩
    obtain ⟨g, k1, k2⟩ := row2 q1 hj
    exact ⟨g, Nat.le_trans dm.turn.size k1, k2⟩
  have HLt : Hid (∀ k, OwnT t b c s.A.length v k → k < w.heap.size) := h.lt
  have HDl : Hid ((due (s.now + n) s.S).length ≤ 100000) := by
    obtain ⟨xs, _, hw⟩ := h.wh
    have e1 := congrArg List.length (due_left (s.now + n) s.S)
    rw [List.length_append] at e1
    have := hw.2.2.2.2.1.2
    show _ ≤ _
    omega
  have hw1 : IntKind.i64.wrap (s.now + n) = s.now + n := by rw [IntKind.wrap_i64]; omega
  have c3' := d1.tab.c3
  have HG : Hid (ticked s n = ⟨wkAll s.A (ids (due (s.now + n) s.S)), left (s.now + n) s.S, s.T, s.now + n⟩) := rfl
  clear h d1 hT
  generalize hL : 1099511627776 - s.now = L at *
  clear hL hnw n1 n2 n3
  go_enter Try.func24, Try.ntmps24
  go_upto_region 5 with (go_at_call 42; refine HL.mono ?_; rintro e wx ⟨rfl, hwx⟩; have hwy := hwx.symm; clear hwx; subst hwy)
  generalize due (s.now + n) s.S = D at *
  generalize left (s.now + n) s.S = R at *
  generalize w.setCell ⟨t, 3, none⟩ (.int .i64 (s.now + n)) = W at *
  clear c3 f3 HL
  generalize s.now + n = nw at *
  go_region_held (fun w' => w'.cell? ⟨t, 3, none⟩ = some (.int .i64 nw)) (first | (go_keep; done) | skip) (first | (go_at_call 43; refine (HTk0.out 1).mono ?_; rintro e w1 ⟨a, cap, rfl, v1, R1⟩; have c3' := R1.out.1.tab.c3))
  all_goals
    clear HTk0
    go_wp2_with fail
    go_loopw [36] (fun s36 wr => ∃ k : Nat, k ≤ D.length ∧ s36 = .int .i64 k ∧ Hid (Does t b c v v1 s ⟨wkAll s.A (ids (D.take k)), R, s.T, nw⟩ w wr ∧ RdT wr w.heap.size a D)) (fun s36 _ => D.length - (intOf s36).toNat)
    case atStart => exact ⟨0, Nat.zero_le _, rfl, R1.out.1, R1.out.2.1⟩
    case round =>
      obtain ⟨k, hk, rfl, hR⟩ := hrel
      by_cases hlt : k < D.length
      · have hlt' : (k : Int) < (D.length : Int) := by omega
        obtain ⟨g, _, rfl, y0, y1⟩ := hR.out.2 k hlt
        have x1 : Ext wr (wr.alloc (.cells #[.int .i64 (gt D k).1, .int .i64 (gt D k).2.1] 82)) := (Ext.refl wr).alloc _
        have r1 := hR.out.1.ext x1
        have HWk : Hid (Calls Try.prog 13 #[.pointer (some ⟨t, 0, none⟩), .int .i64 (gt D k).1] (wr.alloc (.cells #[.int .i64 (gt D k).1, .int .i64 (gt D k).2.1] 82)) fun e w' => (∃ u, e = .returned u) ∧ Hid (Does t b c v v1 s ⟨wkAll s.A (ids (D.take (k + 1))), R, s.T, nw⟩ w w' ∧ RdT w' w.heap.size (some ⟨g, 0, none⟩) D)) := by
          refine (wake_any (gt D k).1 _ r1.tab).mono ?_
          rintro e w' ⟨rfl, d2⟩
          refine ⟨⟨_, rfl⟩, ?_, ?_⟩
          · have := r1.trans d2
            rw [ids_take hlt, wkAll_app]
            exact this
          · refine (hR.out.2.ext x1).turn d2.turn (fun i o => ?_)
            rcases o with o | o | ⟨j, hj, o⟩ | o
            · exact HLt.out i (.inl o)
            · exact HLt.out i (.inr (.inl o))
            · exact HLt.out i (.inr (.inr (.inl ⟨j, by simpa [wkAll_len] using hj, o⟩)))
            · rw [R1.out.2.2] at o
              exact HLt.out i (.inr (.inr (.inr o)))
        have HWk := HWk.out
        have hD := HDl.out
        have hkx : (k : Int) ≤ 9223372036854775806 := by omega
        clear hR x1 r1 hD
        generalize (gt D k).1 = t1 at *
        generalize (gt D k).2.1 = t2 at *
        go_wp2_with (go_at_call 13; refine HWk.mono ?_; rintro e w2 ⟨⟨u2, rfl⟩, R2⟩)
        go_roundw
        case measure => simp [intOf]; omega
        case rel => exact ⟨k + 1, by omega, by simp, R2⟩
      · have hkn : ¬ (k : Int) < (D.length : Int) := by omega
        have HF : Hid (Does t b c v v1 s (ticked s n) w wr) := by
          have := hR.out.1
          rw [List.take_of_length_le (by omega)] at this
          show Does _ _ _ _ _ _ _ _ _
          rw [HG.out]
          exact this
        clear hR HG
        go_wp2_with fail
        go_ret
        exact ⟨rfl, v1, HF.out⟩
end
end Go.Proofs.Ytehphgpkhfokhaa
