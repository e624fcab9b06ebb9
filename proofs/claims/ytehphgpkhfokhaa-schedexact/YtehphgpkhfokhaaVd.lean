/- The reference's table: Tick, NewTable. -/
import Derived.Test.YtehphgpkhfokhaaVc
namespace Go.Proofs.Ytehphgpkhfokhaa
open Go.RowKit Go.Conc
section
variable {q g : Nat} {v : Value} {s : St}
set_option maxRecDepth 20000 in
set_option maxHeartbeats 2000000 in
theorem rtick_any (n : Int) (w : World) (h : RT w q g v s) (hn : tickOk s n) (hS : s.S.length ≤ 1000) :
    Calls Try.prog 23 #[.pointer (some ⟨q, 0, none⟩), .int .i64 n] w fun e w' => (∃ x, e = .returned x) ∧ ∃ v', DoesR q g v v' s (ticked s n) w w' := by
  obtain ⟨n1, n2, n3⟩ := hn
  obtain ⟨c1, f1⟩ := h.c1
  have hnw := h.nw
  have d1 := h.does_time (s.now + n) ⟨by omega, n3⟩
  have HTk0 : Hid (∀ m, Calls Try.prog 41 #[.pointer (some ⟨q, 2, none⟩), .int .i64 (s.now + n)] ((w.setCell ⟨q, 1, none⟩ (.int .i64 (s.now + n))).drewN m) fun e w' => ∃ a cap, e = .returned (.slice a (due (s.now + n) s.S).length cap) ∧ w'.cell? ⟨q, 1, none⟩ = some (.int .i64 (s.now + n)) ∧ ∃ v', Hid (DoesR q g v v' s ⟨s.A, left (s.now + n) s.S, s.T, s.now + n⟩ w w' ∧ RdT w' w.heap.size a (due (s.now + n) s.S))) := fun m => by
    have dm := d1.ext (drewN_ext (w := w.setCell ⟨q, 1, none⟩ (.int .i64 (s.now + n))) m)
    refine (rtake_any (s.now + n) _ dm.tab.rw_ hS).mono ?_
    rintro e w' ⟨r, rfl, q1, v', q2, q3, q4⟩
    obtain ⟨a, cap, rfl, _⟩ := row_shape q1
    have dd := dm.trans (dm.tab.goes (T := s.T) q3 q2 q4)
    refine ⟨a, cap, rfl, dd.tab.c1.1, v', dd, fun j hj => ?_⟩
    obtain ⟨g', k1, k2⟩ := row2 q1 hj
    exact ⟨g', Nat.le_trans dm.turn.size k1, k2⟩
  have HLg : Hid (g < w.heap.size) := h.lt g (.inr (.inl rfl))
  have HDl : Hid ((due (s.now + n) s.S).length ≤ 1000) := by
    have e1 := congrArg List.length (due_left (s.now + n) s.S)
    rw [List.length_append] at e1
    show _ ≤ _
    omega
  have hw1 : IntKind.i64.wrap (s.now + n) = s.now + n := by rw [IntKind.wrap_i64]; omega
  have c1' := d1.tab.c1.1
  have HG : Hid (ticked s n = ⟨wkAll s.A (ids (due (s.now + n) s.S)), left (s.now + n) s.S, s.T, s.now + n⟩) := rfl
  clear h d1 hS hnw n1 n2 n3
  simp only at c1'
  generalize hD : due (s.now + n) s.S = D at *
  generalize hRm : left (s.now + n) s.S = R at *
  clear hD hRm
  go_enter Try.func23, Try.ntmps23
  go_upto_region 1 with fail
  generalize w.setCell ⟨q, 1, none⟩ (.int .i64 (s.now + n)) = W at *
  clear c1 f1
  generalize s.now + n = nw at *
  go_region_held (fun w' => w'.cell? ⟨q, 1, none⟩ = some (.int .i64 nw)) (first | (go_keep; done) | skip) (first | (go_at_call 41; refine (HTk0.out 1).mono ?_; rintro e w1 ⟨a, cap, rfl, c1', v1, R1⟩))
  all_goals
    clear HTk0
    go_wp2_with fail
    go_loopw [5] (fun s5 wr => ∃ k : Nat, k ≤ D.length ∧ s5 = .int .i64 k ∧ Hid (DoesR q g v v1 s ⟨wkAll s.A (ids (D.take k)), R, s.T, nw⟩ w wr ∧ RdT wr w.heap.size a D)) (fun s5 _ => D.length - (intOf s5).toNat)
    case atStart => exact ⟨0, Nat.zero_le _, rfl, R1.out.1, R1.out.2⟩
    case round =>
      obtain ⟨k, hk, rfl, hR⟩ := hrel
      by_cases hlt : k < D.length
      · have hlt' : (k : Int) < (D.length : Int) := by omega
        obtain ⟨g', _, rfl, y0, y1⟩ := hR.out.2 k hlt
        have HWk : Hid (Calls Try.prog 12 #[.pointer (some ⟨q, 0, none⟩), .int .i64 (gt D k).1] wr fun e w' => (∃ u, e = .returned u) ∧ Hid (DoesR q g v v1 s ⟨wkAll s.A (ids (D.take (k + 1))), R, s.T, nw⟩ w w' ∧ RdT w' w.heap.size (some ⟨g', 0, none⟩) D)) := by
          refine (rwake_t (gt D k).1 _ hR.out.1.tab).mono ?_
          rintro e w' ⟨rfl, d2, t2⟩
          refine ⟨⟨_, rfl⟩, ?_, ?_⟩
          · have := hR.out.1.trans d2
            rw [ids_take hlt, wkAll_app]
            exact this
          · exact hR.out.2.turn t2 (fun i o => by have := HLg.out; omega)
        have HWk := HWk.out
        have hD := HDl.out
        have hkx : (k : Int) ≤ 1000 := by omega
        clear hR hD
        generalize (gt D k).1 = t1 at *
        generalize (gt D k).2.1 = t2 at *
        go_wp2_with (go_at_call 12; refine HWk.mono ?_; rintro e w2 ⟨⟨u2, rfl⟩, R2⟩)
        go_roundw
        case measure => simp [intOf]; omega
        case rel => exact ⟨k + 1, by omega, by simp, R2⟩
      · have hkn : ¬ (k : Int) < (D.length : Int) := by omega
        have HF : Hid (DoesR q g v v1 s (ticked s n) w wr) := by
          have := hR.out.1
          rw [List.take_of_length_le (by omega)] at this
          show DoesR _ _ _ _ _ _ _ _
          rw [HG.out]
          exact this
        clear hR HG
        go_wp2_with fail
        go_end0
        exact ⟨⟨_, rfl⟩, v1, HF.out⟩
end
theorem Try.infoBool : (Try.prog.info? 4).map (fun i => (i.zero, i.size, i.bytes)) = some (some (.bool false), 1, 1) := by kernel_rfl
theorem mkbools (n : Nat) (hn : n ≤ 16) (w : World) : (Instr.makeSlice 52 (.int .i64 n) (.int .i64 n)).run Try.prog w = .ok (.slice (some ⟨w.heap.size, 0, none⟩) n n) (w.alloc (.cells (madeCells #[.bool false] n) 4)) := by
  obtain ⟨i, hi, hz, hs, hb⟩ := info_parts Try.infoBool
  have := run_make (P := Try.prog) w 52 4 i (.bool false) Try.underlying52 hi hz .i64 .i64 n n (by omega) (Int.le_refl _) (by rw [hb]; omega) (by omega)
  simpa [hs, Value.cells] using this
theorem madeb_at (n i : Nat) (hi : i < n) : (madeCells #[Value.bool false] n)[i]? = some (.bool false) := by
  simp [madeCells, hi, Nat.mod_one]
theorem rt_new (w : World) (n : Nat) (h1 : 1 ≤ n) (h2 : n ≤ 16) (T1 T2 : TypeId) : RT ((w.alloc (.cells (madeCells #[.bool false] n) T1)).alloc (.cells #[.slice (some ⟨w.heap.size, 0, none⟩) n n, .int .i64 0, .slice none 0 0] T2)) (w.heap.size + 1) w.heap.size (.slice none 0 0) ⟨List.replicate n false, [], 0, 0⟩ := by
  have x : Ext (w.alloc (.cells (madeCells #[.bool false] n) T1)) ((w.alloc (.cells (madeCells #[.bool false] n) T1)).alloc (.cells #[.slice (some ⟨w.heap.size, 0, none⟩) n n, .int .i64 0, .slice none 0 0] T2)) := (Ext.refl _).alloc _
  refine ⟨by simp [go_sem], ⟨by simp [go_sem], by simp [go_sem]⟩, fun i hi => ?_, ⟨⟨by simp [go_sem], by simp [go_sem]⟩, World.ownsRow_nil _ _ _ _, by simp [Value.ownBlock]⟩, by omega, by simp [Value.ownBlock], by simp; omega, by simp⟩
  have hi' : i < n := by simpa using hi
  have e1 : (w.alloc (.cells (madeCells #[.bool false] n) T1)).cell? ⟨w.heap.size, i, none⟩ = some (.bool false) := by
    simp only [World.cell?, heap_alloc_at]
    exact madeb_at n i hi'
  have e2 : (w.alloc (.cells (madeCells #[.bool false] n) T1)).frozen? ⟨w.heap.size, i, none⟩ = false := by simp only [World.frozen?, heap_alloc_at]; simp
  rw [up_rep]
  exact ⟨x.keepc e1, x.keepf e1 e2⟩
set_option maxHeartbeats 400000 in
theorem rnew_any (n : Nat) (w : World) (h1 : 1 ≤ n) (h2 : n ≤ 16) :
    Calls Try.prog 10 #[.int .i64 n] w fun e w' => ∃ q g, e = .returned (.pointer (some ⟨q, 0, none⟩)) ∧ RT w' q g (.slice none 0 0) ⟨List.replicate n false, [], 0, 0⟩ ∧ Ext w w' ∧ ∀ k, OwnQ q g (.slice none 0 0) k → w.heap.size ≤ k := by
  have hmk := mkbools n h2
  have HR : Hid (RT ((w.alloc (.cells (madeCells #[.bool false] n) 4)).alloc (.cells #[.slice (some ⟨w.heap.size, 0, none⟩) n n, .int .i64 0, .slice none 0 0] 57)) (w.heap.size + 1) w.heap.size (.slice none 0 0) ⟨List.replicate n false, [], 0, 0⟩) := rt_new w n h1 h2 _ _
  have HX : Hid (Ext w ((w.alloc (.cells (madeCells #[.bool false] n) 4)).alloc (.cells #[.slice (some ⟨w.heap.size, 0, none⟩) n n, .int .i64 0, .slice none 0 0] 57))) := ((Ext.refl w).alloc _).alloc _
  have HO : Hid (∀ k, OwnQ (w.heap.size + 1) w.heap.size (.slice none 0 0) k → w.heap.size ≤ k) := fun k o => by
    rcases o with o | o | o
    · omega
    · omega
    · simp [Value.ownBlock] at o
  generalize madeCells #[Value.bool false] n = M at *
  go_enter Try.func10, Try.ntmps10
  go_wp2_with fail
  go_ret
  exact ⟨_, _, rfl, HR.out, HX.out, HO.out⟩
end Go.Proofs.Ytehphgpkhfokhaa
