/- All's closure over a ring of pairs: what comes, in order. -/
import Derived.RangeFuncNested
import Derived.RangeFuncBound
import Derived.RangeFuncCalls
import Derived.RangeFuncLeaves
import Derived.Shelf.Abstract
import Derived.Shelf.RegionOpen
import Derived.OwnWalkIn
import Derived.TacticsInMore
import Derived.LoopNIn
import Derived.LoopIn
import Derived.Test.YtblpdnpfhjnbgaaRx
import Derived.Test.YtblpdnpfhjnbgaaRp6
namespace Go.Proofs.Ytblpdnpfhjnbgaa
open Go.RowKit Go.Conc Go.Shelf
attribute [local go_sem] Oper.semAt_some
set_option maxRecDepth 100000 in
set_option maxHeartbeats 2000000 in
theorem all1_p_in {p d c cap : Nat} {zs : List (Int × ByteArray)} (n : Nat) (hn : 1 ≤ n) (l Bs kb : Nat) (Zn : Nat → Int) (Zx : Nat → ByteArray) (hZ : ∀ j, j < zs.length → zs[j]? = some (Zn j, Zx j)) (J Jx : List (Nat × Int × ByteArray) → World → Prop) (W : World)
    (hJ : AbidesFrom W.heap.size J) (hkb : kb < W.heap.size)
    (hY : ∀ pre x W1, J pre W1 → pre.length < zs.length → YieldAt Fence.wide (n - 1) Try.prog l #[.int .i64 (x.1 : Int), pr x.2.1 x.2.2] W1 fun e W' =>
      (e = .returned (.bool true) ∧ J (pre ++ [x]) W' ∧ KeepsCells kb W1 W') ∨ (e = .returned (.bool false) ∧ Jx (pre ++ [x]) W'))
    (hBs : W.cell? ⟨Bs, 0, none⟩ = some (.pointer (some ⟨p, 0, none⟩))) (h : Rp W p d c cap zs) (h0 : J [] W) :
    CallsIn Fence.wide n Try.prog 39 #[.func (.yield l) #[] #[], .pointer (some ⟨Bs, 0, none⟩)] W fun e W' => (∃ v, e = .returned v) ∧
      ((∃ ys, ys = upto (fun j => (j, Zn j, Zx j)) zs.length ∧ J ys W') ∨ (∃ pre, (∃ k, k ≤ zs.length ∧ pre = upto (fun j => (j, Zn j, Zx j)) k) ∧ Jx pre W')) := by
  have HL := list_p W h Zn Zx hZ
  have hle : zs.length ≤ 256 := by obtain ⟨h1, _, h2⟩ := h.le; omega
  clear hZ h
  generalize zs.length = len at *
  refine callsIn_of_wp Try.func39 rfl trivial ?_ rfl
  simp only [Try.ntmps39, List.size_toArray, List.length_cons, List.length_nil, Nat.reduceAdd, Nat.reduceSub, Array.replicate_succ, Array.replicate_zero, List.push_toArray, List.append_toArray, List.nil_append, List.cons_append]
  gi_wp2_with (refine ⟨trivial, ?_⟩; gi_at_call 40; refine (callsIn_wide.2 HL).mono ?_; rintro e W1 ⟨rfl, hL1⟩)
  obtain ⟨A, hA, hAs, hAj, hx⟩ := hL1
  have hJ1 : J [] W1 := hJ [] W W1 none h0 ⟨hx.os, hx.tape, hx.output, hx.size, fun k hk _ => hx.block k hk⟩ (fun r e => by cases e)
  have hcA : ∀ j, j < len → W1.cell? ⟨W.heap.size, j * 2, none⟩ = some (.int .i64 (Zn j)) := fun j hj => by
    simp only [World.cell?, hA]; simpa using (hAj j hj).1
  have hcB : ∀ j, j < len → W1.cell? ⟨W.heap.size, j * 2 + 1, none⟩ = some (.string (Zx j)) := fun j hj => by
    simp only [World.cell?, hA]; simpa using (hAj j hj).2
  clear hA hAs hAj hx HL h0 hBs
  generalize hN : W.heap.size = N at *
  clear hN
  gi_loopw [8] (fun i wr => ∃ k : Nat, k ≤ len ∧ i = .int .i64 k ∧ J (upto (fun j => (j, Zn j, Zx j)) k) wr ∧ KeepsCells kb W1 wr)
    (fun i _ => len - (intOf i).toNat)
  case atStart => exact ⟨0, Nat.zero_le _, rfl, hJ1, KeepsCells.refl _ _⟩
  case round =>
    obtain ⟨k, hk, rfl, hJs, hnx⟩ := hrel
    by_cases hlt : k < len
    · have hJa : J (upto (fun j => (j, Zn j, Zx j)) k) (wr.alloc (.cells #[.int .i64 (Zn k), .string (Zx k)] Ep)) := hJ _ wr _ none hJs (World.grownBy_alloc wr _ none) (fun r e => by cases e)
      obtain ⟨fn, tmps, assign, body, hy, hR⟩ := hY _ (k, Zn k, Zx k) (wr.alloc (.cells #[.int .i64 (Zn k), .string (Zx k)] Ep)) hJa (by rw [upto_length]; exact hlt)
      dsimp only at hy
      have hcx := hnx.cell (b := N) (by omega) (hcA k hlt)
      have hcy := hnx.cell (b := N) (by omega) (hcB k hlt)
      have hka : KeepsCells kb wr (wr.alloc (.cells #[.int .i64 (Zn k), .string (Zx k)] Ep)) := fun b C E fz _ hx => (Below.heap_alloc _ _ _ (Array.getElem?_eq_some_iff.1 hx).1).trans hx
      gi_wp2
      refine hR.mono ?_
      rintro e W3 (⟨rfl, hJ3, hk3⟩ | ⟨rfl, hJx3⟩)
      · gi_wp2
        go_roundw
        case rel => exact ⟨k + 1, by omega, by simp, by rw [upto_succ]; exact hJ3, (hnx.trans hka).trans hk3⟩
        case measure => simp [intOf]; omega
      · gi_wp2
        refine bodyPost_ret (results_none rfl _ _ _) rfl ?_
        exact ⟨⟨_, rfl⟩, .inr ⟨_, ⟨k + 1, by omega, (upto_succ _ _).symm⟩, hJx3⟩⟩
    · obtain rfl : k = len := by omega
      gi_wp2
      go_end0
      exact ⟨⟨_, rfl⟩, .inl ⟨_, rfl, hJs⟩⟩
theorem all_stops_p {p d c cap : Nat} {zs : List (Int × ByteArray)} (n : Nat) (hn : 1 ≤ n) (Bs kb : Nat) (Zn : Nat → Int) (Zx : Nat → ByteArray) (hZ : ∀ j, j < zs.length → zs[j]? = some (Zn j, Zx j)) (w : World) (hkb : kb < w.heap.size)
    (hBs : w.cell? ⟨Bs, 0, none⟩ = some (.pointer (some ⟨p, 0, none⟩))) (h : Rp w p d c cap zs) :
    SeqStopsK Fence.wide n Try.prog 39 #[.pointer (some ⟨Bs, 0, none⟩)] (fun x : Nat × Int × ByteArray => #[Value.int .i64 (x.1 : Int), pr x.2.1 x.2.2]) (KeepsCells kb) (fun ys => ys = upto (fun j => (j, Zn j, Zx j)) zs.length)
      (fun pre => ∃ k, k ≤ zs.length ∧ pre = upto (fun j => (j, Zn j, Zx j)) k) zs.length w := fun l J Jx W hW hJ _ hY h0 => by
  have hx : Ext w W := hW
  exact all1_p_in n hn l Bs kb Zn Zx hZ J Jx W hJ (Nat.lt_of_lt_of_le hkb hx.size) hY (hx.keepc hBs) (h.ext hx) h0
end Go.Proofs.Ytblpdnpfhjnbgaa
