/- slices.Chunk over bytes: eight at a time. -/
import Derived.RangeFuncNested
import Derived.RangeFuncBound
import Derived.RangeFuncCalls
import Derived.RangeFuncLeaves
import Derived.Shelf.Abstract
import Derived.Shelf.RegionOpen
import Derived.OwnWalkIn
import Derived.TacticsInMore
import Derived.LoopNIn
import Derived.LoopIn
import Derived.Test.YtdfhhfpfnkjbnaaUb
namespace Go.Proofs.Ytdfhhfpfnkjbnaa
open Go.RowKit Go.Conc Go.Shelf
attribute [local go_sem] Oper.semAt_some
set_option maxHeartbeats 1000000 in
theorem chunk_any (a : Option Addr) (n c : Nat) (w : World) : Calls Try.prog 98 #[.slice a n c, .int .i64 8] w fun e w' => e = .returned (.func (.func 108) #[] #[.pointer (some ⟨w.heap.size, 0, none⟩), .pointer (some ⟨w.heap.size + 1, 0, none⟩)]) ∧ w' = (w.alloc (.cells #[.slice a n c] 25)).alloc (.cells #[.int .i64 8] 3) := by
  go_enter Try.func98, Try.ntmps98
  go_wp2
  go_ret
  exact ⟨rfl, rfl⟩
/-- the k-th part -/
abbrev part8 (g o k : Nat) : Value := .slice (some ⟨g, o + 8 * k, none⟩) 8 8
/-- the first k of m -/
def uptoF (m : Nat) : Nat → List { x : Nat // x < m }
  | 0 => []
  | k + 1 => uptoF m k ++ (if h : k < m then [⟨k, h⟩] else [])
theorem uptoF_len (m k : Nat) (h : k ≤ m) : (uptoF m k).length = k := by
  induction k with
  | zero => rfl
  | succ k ih => rw [uptoF, List.length_append, ih (by omega), dif_pos (by omega)]; rfl
set_option maxRecDepth 100000 in
set_option maxHeartbeats 2000000 in
theorem chunk1_in {own : Nat → Prop} (n : Nat) (hn : 1 ≤ n) (l Bs Bn g o c m : Nat) (hm : m ≤ 1000) (hcap : 8 * m ≤ c) (J Jx : List { x : Nat // x < m } → World → Prop) (W : World)
    (hJ : AbidesFrom W.heap.size J) (hs1 : ¬ own Bs) (hs2 : ¬ own Bn)
    (hY : ∀ pre x W1, J pre W1 → pre.length < m → YieldAt Fence.wide (n - 1) Try.prog l #[part8 g o x.1] W1 fun e W' =>
      (e = .returned (.bool true) ∧ J (pre ++ [x]) W' ∧ Tn own W1 W') ∨ (e = .returned (.bool false) ∧ Jx (pre ++ [x]) W'))
    (hBs : W.cell? ⟨Bs, 0, none⟩ = some (.slice (some ⟨g, o, none⟩) (8 * m) c)) (hBn : W.cell? ⟨Bn, 0, none⟩ = some (.int .i64 8)) (h0 : J [] W) :
    CallsIn Fence.wide n Try.prog 108 #[.func (.yield l) #[] #[], .pointer (some ⟨Bs, 0, none⟩), .pointer (some ⟨Bn, 0, none⟩)] W fun e W' => (∃ v, e = .returned v) ∧
      ((∃ ys, ys = uptoF m m ∧ J ys W') ∨ (∃ pre, (∃ k, k ≤ m ∧ pre = uptoF m k) ∧ Jx pre W')) := by
  refine callsIn_of_wp Try.func108 rfl trivial ?_ rfl
  simp only [Try.ntmps108, List.size_toArray, List.length_cons, List.length_nil, Nat.reduceAdd, Nat.reduceSub, Array.replicate_succ, Array.replicate_zero, List.push_toArray, List.append_toArray, List.nil_append, List.cons_append]
  gi_wp2
  gi_loopw [4, 5] (fun i _ wr => ∃ k : Nat, k ≤ m ∧ i = .int .i64 (8 * k : Nat) ∧ J (uptoF m k) wr ∧ Tn own W wr)
    (fun i _ _ => 8 * m - (intOf i).toNat)
  case atStart => exact ⟨0, Nat.zero_le _, rfl, h0, Tn.refl _ _⟩
  case round =>
    obtain ⟨k, hk, rfl, hJs, hnx⟩ := hrel
    have cs := hnx.keepc hs1 hBs
    have cn := hnx.keepc hs2 hBn
    by_cases hlt : k < m
    · have hlti : ((8 * k : Nat) : Int) < ((8 * m : Nat) : Int) := by omega
      gi_wp2
      refine (wpIn_wide (n := n)).2 ?_
      have hle : (8 * k : Nat) ≤ 8 * m := by omega
      have hle2 : ((8 * k : Nat) : Int) ≤ (c : Int) := by omega
      have hJd : J (uptoF m k) wr.drew := hJ _ wr wr.drew none hJs ⟨rfl, rfl, rfl, Nat.le_refl _, fun _ _ _ => rfl⟩ (fun r e => by cases e)
      obtain ⟨fn, tmps, assign, body, hy, hR⟩ := hY _ ⟨k, hlt⟩ wr.drew hJd (by rw [uptoF_len m k (by omega)]; exact hlt)
      dsimp only at hy
      have hup : uptoF m (k + 1) = uptoF m k ++ [⟨k, hlt⟩] := by rw [uptoF, dif_pos hlt]
      go_region
      have hc8 : ((8 * k : Nat) : Int) + 8 ≤ ((8 * m : Nat) : Int) := by omega
      have hc9 : ((8 * k : Nat) : Int) + 8 ≤ (c : Int) := by omega
      gi_wp2
      refine hR.mono ?_
      rintro e W3 (⟨rfl, hJ3, hk3⟩ | ⟨rfl, hJx3⟩)
      · have T3 : Tn own W W3 := (hnx.drew).trans hk3 (fun _ _ o => o)
        have cn3 := T3.keepc hs2 hBn
        rw [← hup] at hJ3
        clear hY hJ hJd hy hR hup cs cn
        gi_wp2
        go_roundw
        case rel => exact ⟨k + 1, by omega, by simp; omega, hJ3, T3⟩
        case measure => simp [intOf]; omega
      · rw [← hup] at hJx3
        gi_wp2
        refine bodyPost_ret (results_none rfl _ _ _) rfl ?_
        exact ⟨⟨_, rfl⟩, .inr ⟨_, ⟨k + 1, by omega, rfl⟩, hJx3⟩⟩
    · obtain rfl : k = m := by omega
      gi_wp2
      go_end0
      exact ⟨⟨_, rfl⟩, .inl ⟨_, rfl, hJs⟩⟩
theorem chunk_stops {own : Nat → Prop} (n : Nat) (hn : 1 ≤ n) (Bs Bn g o c m : Nat) (hm : m ≤ 1000) (hcap : 8 * m ≤ c) (w : World) (hs1 : ¬ own Bs) (hs2 : ¬ own Bn)
    (hBs : w.cell? ⟨Bs, 0, none⟩ = some (.slice (some ⟨g, o, none⟩) (8 * m) c)) (hBn : w.cell? ⟨Bn, 0, none⟩ = some (.int .i64 8)) :
    SeqStopsK Fence.wide n Try.prog 108 #[.pointer (some ⟨Bs, 0, none⟩), .pointer (some ⟨Bn, 0, none⟩)] (fun x : { x : Nat // x < m } => #[part8 g o x.1]) (Tn own) (fun ys => ys = uptoF m m)
      (fun pre => ∃ k, k ≤ m ∧ pre = uptoF m k) m w := fun l J Jx W hW hJ _ hY h0 => by
  have hx : Ext w W := hW
  exact chunk1_in n hn l Bs Bn g o c m hm hcap J Jx W hJ hs1 hs2 hY (hx.keepc hBs) (hx.keepc hBn) h0
end Go.Proofs.Ytdfhhfpfnkjbnaa
