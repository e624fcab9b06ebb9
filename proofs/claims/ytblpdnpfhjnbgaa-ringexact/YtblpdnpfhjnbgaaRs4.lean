/- New of a ring of string. -/
import Derived.Test.YtblpdnpfhjnbgaaRs3
import Derived.Deep.DeepCutAuto
namespace Go.Proofs.Ytblpdnpfhjnbgaa
open Go.RowKit Go.Conc
theorem mkslice_s (n : Nat) (hn : n ≤ 256) (w : World) : (Instr.makeSlice 71 (.int .i64 n) (.int .i64 n)).run Try.prog w = .ok (.slice (some ⟨w.heap.size, 0, none⟩) n n) (w.alloc (.cells (madeCells #[.string ⟨#[]⟩] n) 9)) := by
  obtain ⟨i, hi, hb, hs, hz⟩ := infos
  have := run_make (P := Try.prog) w 71 9 i (.string ⟨#[]⟩) Try.underlying71 hi hz .i64 .i64 n n (by omega) (Int.le_refl _) (by rw [hb]; omega) (by omega)
  simpa [hs, Value.cells] using this
set_option maxHeartbeats 1000000 in
theorem new_s (w : World) (cap : Nat) (h1 : 1 ≤ cap) (h2 : cap ≤ 256) :
    Calls Try.prog 18 #[.int .i64 cap] w fun e w' => ∃ p d c, e = .returned (.tuple #[.pointer (some ⟨p, 0, none⟩), .int .i64 0]) ∧ Rs w' p d c cap [] ∧ w.heap.size ≤ p ∧ w.heap.size ≤ d ∧ w.heap.size ≤ c ∧ Ext w w' := by
  have hmk := mkslice_s cap h2
  have hmc := mkchan cap h2
  have hA : (madeCells #[.string ⟨#[]⟩] cap).size = cap := size_madeCells _ _
  generalize madeCells #[.string ⟨#[]⟩] cap = A at *
  go_enter Try.func18, Try.ntmps18
  go_upto_region 3 with fail
  go_cut [4] (fun v wx => ∃ p d c, v = .pointer (some ⟨p, 0, none⟩) ∧ Hid (NewTo w wx 73 9 p d c cap A 0))
  case first =>
    go_region
    · go_wp2_with fail
      go_meet
      exact ⟨_, _, _, rfl, ⟨rs_newA w cap A _ _, by omega, by omega, by omega, by omega, by omega, by omega, ((((Ext.refl w).alloc _).alloc _).alloc _).drew⟩⟩
    · go_wp2_with fail
      go_meet
      exact ⟨_, _, _, rfl, ⟨rs_newB w cap A _ _, by omega, by omega, by omega, by omega, by omega, by omega, ((((Ext.refl w).alloc _).alloc _).alloc _).drew⟩⟩
  case rest =>
    obtain ⟨p, d, c, rfl, hN⟩ := hcut
    clear hmk hmc
    go_wp2_with fail
    go_loopw [19] (fun i wr => ∃ k : Nat, k ≤ cap ∧ i = .int .i64 k ∧ Hid (NewTo w wr 73 9 p d c cap A k)) (fun i _ => cap - (intOf i).toNat)
    case atStart => exact ⟨0, Nat.zero_le _, rfl, hN⟩
    case round =>
      obtain ⟨k, hk, rfl, hR⟩ := hrel
      by_cases hlt : k < cap
      · go_upto_region 7 with fail
        obtain ⟨hr, bp, bd, bc, hpd, hpc, hdc, hx⟩ := hR.out
        obtain ⟨c0, c1, c2, f0, f1, f2⟩ := hr.lay
        have hN' : Hid (NewTo w (wr.setChan c cap ((freeTo k).push (.int .i64 k)) false (k + 1) 0 false) 73 9 p d c cap A (k + 1)) := ⟨by rw [freeTo_succ]; exact hr.setFree hpc hdc _ _ _, bp, bd, bc, hpd, hpc, hdc, below_setChan hx bc _ _ _ _ _ _⟩
        refine wp_region_comm 5 _ rfl ?_
        simp only [List.take_succ_cons, List.take_zero, List.drop_succ_cons, List.drop_zero]
        repeat still_step
        refine wpStill_nil ⟨rfl, _, _, hands_send (c := c) (v := .int .i64 k) (z := .tuple #[]) ?_ hr.2.2 (by rw [freeTo_size]; exact hlt), wpStill_nil ?_⟩
        · simp [go_sem, execOp, scase, Act.eval]
        generalize wr.setChan c cap ((freeTo k).push (.int .i64 k)) false (k + 1) 0 false = w2 at *
        clear hr bp bd bc hpd hpc hdc hx c0 c1 c2 f0 f1 f2 hR hN
        go_wp2_with fail
        go_round
        case measure => simp [intOf]; omega
        case rel => exact ⟨k + 1, by omega, by simp, hN'⟩
      · have hkc : k = cap := by omega
        subst hkc
        go_wp2_with fail
        go_ret2
        obtain ⟨hr, bp, bd, bc, hpd, hpc, hdc, hx⟩ := hR.out
        exact ⟨p, d, c, rfl, ⟨_, _, _, _, _, hr, holds_new _ h1 h2 A hA, hpd, hpc, hdc⟩, bp, bd, bc, hx⟩
end Go.Proofs.Ytblpdnpfhjnbgaa
