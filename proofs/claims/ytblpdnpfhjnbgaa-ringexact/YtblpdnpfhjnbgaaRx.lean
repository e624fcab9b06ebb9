/- All's closure over a ring of ints: what comes, in order. -/
import Derived.RangeFuncNested
import Derived.RangeFuncBound
import Derived.RangeFuncCalls
import Derived.RangeFuncLeaves
import Derived.Shelf.Abstract
import Derived.Shelf.RegionOpen
import Derived.OwnWalkIn
import Derived.TacticsInMore
import Derived.LoopNIn
import Derived.LoopIn
import Derived.Test.YtblpdnpfhjnbgaaRm
namespace Go.Proofs.Ytblpdnpfhjnbgaa
open Go.RowKit Go.Conc Go.Shelf
attribute [local go_sem] Oper.semAt_some
/-- what has come when k rounds are over -/
def upto {α : Type} (f : Nat → α) (k : Nat) : List α := (List.range k).map f
theorem upto_succ {α : Type} (f : Nat → α) (k : Nat) : upto f (k + 1) = upto f k ++ [f k] := by simp [upto, List.range_succ]
theorem upto_length {α : Type} (f : Nat → α) (k : Nat) : (upto f k).length = k := by simp [upto]
/-- cells stay, but for those of block kb -/
def KeepsCells (kb : Nat) (W W' : World) : Prop := ∀ b C E fz, b ≠ kb → W.heap[b]? = some (.cells C E fz) → W'.heap[b]? = some (.cells C E fz)
theorem KeepsCells.refl (kb : Nat) (W : World) : KeepsCells kb W W := fun _ _ _ _ _ h => h
theorem KeepsCells.trans {kb : Nat} {A B C : World} (h : KeepsCells kb A B) (k : KeepsCells kb B C) : KeepsCells kb A C := fun b X E fz hb hx => k b X E fz hb (h b X E fz hb hx)
theorem KeepsCells.put {kb : Nat} (W : World) (l : Nat) (o o' : Obj) (hl : W.heap[l]? = some o) (ho : o.isCells = false) : KeepsCells kb W (W.putObj l o') := by
  intro b C E fz hb hx
  by_cases e : b = l
  · subst e; rw [hl] at hx; cases hx; simp [Obj.isCells] at ho
  · rw [World.putObj_heap_other e]; exact hx
theorem KeepsCells.cell {kb : Nat} {W W' : World} (h : KeepsCells kb W W') {b o : Nat} {v : Value} (hb : b ≠ kb) (hc : W.cell? ⟨b, o, none⟩ = some v) : W'.cell? ⟨b, o, none⟩ = some v := by
  unfold World.cell? at hc ⊢
  split at hc
  · rename_i C E fz hx
    rw [h b C E fz hb hx]; exact hc
  · simp at hc
set_option maxRecDepth 100000 in
set_option maxHeartbeats 2000000 in
theorem all1_in {p d c cap : Nat} {zs : List Int} (n : Nat) (hn : 1 ≤ n) (l Bs kb : Nat) (Z : Nat → Int) (hZ : ∀ j, j < zs.length → zs[j]?.getD 0 = Z j) (J Jx : List (Nat × Int) → World → Prop) (W : World)
    (hJ : AbidesFrom W.heap.size J) (hkb : kb < W.heap.size)
    (hY : ∀ pre x W1, J pre W1 → pre.length < zs.length → YieldAt Fence.wide (n - 1) Try.prog l #[.int .i64 (x.1 : Int), .int .i64 x.2] W1 fun e W' =>
      (e = .returned (.bool true) ∧ J (pre ++ [x]) W' ∧ KeepsCells kb W1 W') ∨ (e = .returned (.bool false) ∧ Jx (pre ++ [x]) W'))
    (hBs : W.cell? ⟨Bs, 0, none⟩ = some (.pointer (some ⟨p, 0, none⟩))) (h : Ri W p d c cap (vals zs)) (h0 : J [] W) :
    CallsIn Fence.wide n Try.prog 37 #[.func (.yield l) #[] #[], .pointer (some ⟨Bs, 0, none⟩)] W fun e W' => (∃ v, e = .returned v) ∧
      ((∃ ys, ys = upto (fun j => (j, Z j)) zs.length ∧ J ys W') ∨ (∃ pre, (∃ k, k ≤ zs.length ∧ pre = upto (fun j => (j, Z j)) k) ∧ Jx pre W')) := by
  have HL := list_i W h Z hZ
  have hle : zs.length ≤ 256 := by obtain ⟨h1, _, h2⟩ := h.le; rw [vals_len] at h1; omega
  clear hZ h
  generalize zs.length = len at *
  refine callsIn_of_wp Try.func37 rfl trivial ?_ rfl
  simp only [Try.ntmps37, List.size_toArray, List.length_cons, List.length_nil, Nat.reduceAdd, Nat.reduceSub, Array.replicate_succ, Array.replicate_zero, List.push_toArray, List.append_toArray, List.nil_append, List.cons_append]
  gi_wp2_with (refine ⟨trivial, ?_⟩; gi_at_call 38; refine (callsIn_wide.2 HL).mono ?_; rintro e W1 ⟨rfl, hL1⟩)
  obtain ⟨A, hA, hAs, hAj, hx⟩ := hL1
  have hJ1 : J [] W1 := hJ [] W W1 none h0 ⟨hx.os, hx.tape, hx.output, hx.size, fun k hk _ => hx.block k hk⟩ (fun r e => by cases e)
  have hcA : ∀ j, j < len → W1.cell? ⟨W.heap.size, j, none⟩ = some (.int .i64 (Z j)) := fun j hj => by
    simp only [World.cell?, hA]; simpa using hAj j hj
  clear hA hAs hAj hx HL h0 hBs hJ
  generalize hN : W.heap.size = N at *
  clear hN
  gi_loopw [8] (fun i wr => ∃ k : Nat, k ≤ len ∧ i = .int .i64 k ∧ J (upto (fun j => (j, Z j)) k) wr ∧ KeepsCells kb W1 wr)
    (fun i _ => len - (intOf i).toNat)
  case atStart => exact ⟨0, Nat.zero_le _, rfl, hJ1, KeepsCells.refl _ _⟩
  case round =>
    obtain ⟨k, hk, rfl, hJs, hnx⟩ := hrel
    by_cases hlt : k < len
    · obtain ⟨fn, tmps, assign, body, hy, hR⟩ := hY _ (k, Z k) wr hJs (by rw [upto_length]; exact hlt)
      dsimp only at hy
      have hcx := hnx.cell (b := N) (by omega) (hcA k hlt)
      gi_wp2
      refine hR.mono ?_
      rintro e W3 (⟨rfl, hJ3, hk3⟩ | ⟨rfl, hJx3⟩)
      · gi_wp2
        go_roundw
        case rel => exact ⟨k + 1, by omega, by simp, by rw [upto_succ]; exact hJ3, hnx.trans hk3⟩
        case measure => simp [intOf]; omega
      · gi_wp2
        refine bodyPost_ret (results_none rfl _ _ _) rfl ?_
        exact ⟨⟨_, rfl⟩, .inr ⟨_, ⟨k + 1, by omega, (upto_succ _ _).symm⟩, hJx3⟩⟩
    · obtain rfl : k = len := by omega
      gi_wp2
      go_end0
      exact ⟨⟨_, rfl⟩, .inl ⟨_, rfl, hJs⟩⟩
theorem all_stops {p d c cap : Nat} {zs : List Int} (n : Nat) (hn : 1 ≤ n) (Bs kb : Nat) (Z : Nat → Int) (hZ : ∀ j, j < zs.length → zs[j]?.getD 0 = Z j) (w : World) (hkb : kb < w.heap.size)
    (hBs : w.cell? ⟨Bs, 0, none⟩ = some (.pointer (some ⟨p, 0, none⟩))) (h : Ri w p d c cap (vals zs)) :
    SeqStopsK Fence.wide n Try.prog 37 #[.pointer (some ⟨Bs, 0, none⟩)] (fun x : Nat × Int => #[Value.int .i64 (x.1 : Int), Value.int .i64 x.2]) (KeepsCells kb) (fun ys => ys = upto (fun j => (j, Z j)) zs.length)
      (fun pre => ∃ k, k ≤ zs.length ∧ pre = upto (fun j => (j, Z j)) k) zs.length w := fun l J Jx W hW hJ _ hY h0 => by
  have hx : Ext w W := hW
  exact all1_in n hn l Bs kb Z hZ J Jx W hJ (Nat.lt_of_lt_of_le hkb hx.size) hY (hx.keepc hBs) (IsRing.ext h hx) h0
end Go.Proofs.Ytblpdnpfhjnbgaa
