/- sched: signals. -/
import Derived.Test.YtehphgpkhfokhaaJt
import Derived.Test.YtehphgpkhfokhaaCm
import Derived.Defers
import Derived.Recover
namespace Go.Proofs.Ytehphgpkhfokhaa
open Go.RowKit Go.Conc
section
variable {P : Program} {a : Act} {w w' : World} {o : Oper} {v : Value}
theorem hands_sel_room {c cap s r : Nat} {buf : Array Value} {z : Value} {tm : Bool} (hr : (execOp a.eval o).run P w = .ok (.comm #[scase c v z] false .select) w) (hc : w.heap[c]? = some (.chan cap buf false s r tm)) (hroom : buf.size < cap) :
    Hands P o a w (.tuple #[goInt 0, .bool false]) (w.setChan c cap (buf.push v) false (s + 1) r tm) := by
  intro b k cs ops i rest ho hw
  obtain ⟨es, h⟩ := stepG_comm_any (main := true) (b := b) (k := k) (cs := cs) (rest := rest) ho hw hr
  have := step_lone_select_send_room h hc hroom
  rw [Frame.finish_at, ho] at this
  exact this
theorem hands_sel_full {c cap s r : Nat} {buf : Array Value} {z : Value} {tm : Bool} (hr : (execOp a.eval o).run P w = .ok (.comm #[scase c v z] false .select) w) (hc : w.heap[c]? = some (.chan cap buf false s r tm)) (hfull : cap ≤ buf.size) :
    Hands P o a w (.tuple #[goInt (-1), .bool false]) w := by
  intro b k cs ops i rest ho hw
  obtain ⟨es, h⟩ := stepG_comm_any (main := true) (b := b) (k := k) (cs := cs) (rest := rest) ho hw hr
  have := step_lone_select_send_full h hc hfull
  rw [Frame.finish_at, ho] at this
  exact this
end
/-- what lies in a signal -/
abbrev evt : Value := .agg #[]
set_option maxHeartbeats 400000 in
theorem fill_room (w : World) {c s r : Nat} (h : w.heap[c]? = some (.chan 1 #[] false s r false)) :
    Calls Try.prog 36 #[.chan (some c)] w fun e w' => (∃ u, e = .returned u) ∧ w' = w.setChan c 1 #[evt] false (s + 1) r false := by
  go_enter Try.func36, Try.ntmps36
  go_upto_region 2 with fail
  refine wp_region_comm 0 _ rfl ?_
  simp only [List.take_zero, List.drop_succ_cons, List.drop_zero]
  refine wpStill_nil ⟨rfl, _, _, hands_sel_room (c := c) (v := evt) (z := evt) ?_ h (by simp), ?_⟩
  · simp [go_sem, execOp, scase, Act.eval]
  still_step
  still_step
  refine wpStill_nil ?_
  go_wp2_with fail
  go_end0
  exact ⟨⟨_, rfl⟩, rfl⟩
set_option maxHeartbeats 400000 in
theorem fill_full (w : World) {c s r : Nat} (h : w.heap[c]? = some (.chan 1 #[evt] false s r false)) :
    Calls Try.prog 36 #[.chan (some c)] w fun e w' => (∃ u, e = .returned u) ∧ w' = w := by
  go_enter Try.func36, Try.ntmps36
  go_upto_region 2 with fail
  refine wp_region_comm 0 _ rfl ?_
  simp only [List.take_zero, List.drop_succ_cons, List.drop_zero]
  refine wpStill_nil ⟨rfl, _, _, hands_sel_full (c := c) (v := evt) (z := evt) ?_ h (by simp), ?_⟩
  · simp [go_sem, execOp, scase, Act.eval]
  still_step
  still_step
  refine wpStill_nil ?_
  go_wp2_with fail
  go_end0
  exact ⟨⟨_, rfl⟩, rfl⟩
set_option maxHeartbeats 400000 in
theorem empty_none (w : World) {c s r : Nat} (h : w.heap[c]? = some (.chan 1 #[] false s r false)) :
    Calls Try.prog 44 #[.chan (some c)] w fun e w' => e = .returned (.bool false) ∧ w' = w := by
  go_enter Try.func44, Try.ntmps44
  go_upto_region 2 with fail
  refine wp_region_comm 0 _ rfl ?_
  simp only [List.take_zero, List.drop_succ_cons, List.drop_zero]
  refine wpStill_nil ⟨rfl, _, _, hands_default (c := c) (z := evt) ?_ h, ?_⟩
  · simp [go_sem, execOp, rcase, Act.eval]
  still_step
  still_step
  refine wpStill_nil ?_
  go_wp2_with fail
  go_ret
  exact ⟨rfl, rfl⟩
set_option maxHeartbeats 400000 in
theorem empty_some (w : World) {c s r : Nat} (h : w.heap[c]? = some (.chan 1 #[evt] false s r false)) :
    Calls Try.prog 44 #[.chan (some c)] w fun e w' => e = .returned (.bool true) ∧ w' = w.setChan c 1 #[] false s (r + 1) false := by
  go_enter Try.func44, Try.ntmps44
  go_upto_region 2 with fail
  refine wp_region_comm 0 _ rfl ?_
  simp only [List.take_zero, List.drop_succ_cons, List.drop_zero]
  refine wpStill_nil ⟨rfl, _, _, hands_recv (c := c) (z := evt) ?_ h (by simp), ?_⟩
  · simp [go_sem, execOp, rcase, Act.eval]
  still_step
  still_step
  refine wpStill_nil ?_
  go_wp2_with fail
  go_ret
  exact ⟨rfl, rfl⟩
end Go.Proofs.Ytehphgpkhfokhaa
