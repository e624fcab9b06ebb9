/- All's closure over a ring of vectors: what comes, in order. -/
import Derived.RangeFuncNested
import Derived.RangeFuncBound
import Derived.RangeFuncCalls
import Derived.RangeFuncLeaves
import Derived.Shelf.Abstract
import Derived.Shelf.RegionOpen
import Derived.OwnWalkIn
import Derived.TacticsInMore
import Derived.LoopNIn
import Derived.LoopIn
import Derived.Test.YtfooakbcgjebfaaMdf
namespace Go.Proofs.Ytfooakbcgjebfaa
open Go.RowKit Go.Conc Go.Shelf
attribute [local go_sem] Oper.semAt_some
/-- what has come when k rounds are over -/
def upto {α : Type} (f : Nat → α) (k : Nat) : List α := (List.range k).map f
theorem upto_succ {α : Type} (f : Nat → α) (k : Nat) : upto f (k + 1) = upto f k ++ [f k] := by simp [upto, List.range_succ]
theorem upto_length {α : Type} (f : Nat → α) (k : Nat) : (upto f k).length = k := by simp [upto]
/-- cells stay, but for those of owned blocks -/
def KC (own : Nat → Prop) (W W' : World) : Prop := ∀ b C E fz, ¬ own b → W.heap[b]? = some (.cells C E fz) → W'.heap[b]? = some (.cells C E fz)
theorem KC.refl (own : Nat → Prop) (W : World) : KC own W W := fun _ _ _ _ _ h => h
theorem KC.trans {own : Nat → Prop} {A B C : World} (h : KC own A B) (k : KC own B C) : KC own A C := fun b X E fz hb hx => k b X E fz hb (h b X E fz hb hx)
theorem KC.put {own : Nat → Prop} (W : World) (l : Nat) (o o' : Obj) (hl : W.heap[l]? = some o) (ho : o.isCells = false) : KC own W (W.putObj l o') := by
  intro b C E fz hb hx
  by_cases e : b = l
  · subst e; rw [hl] at hx; cases hx; simp [Obj.isCells] at ho
  · rw [World.putObj_heap_other e]; exact hx
theorem KC.of_ext {own : Nat → Prop} {W W' : World} (x : Ext W W') : KC own W W' := fun _ _ _ _ _ hx => (x.blk (Array.getElem?_eq_some_iff.1 hx).1).trans hx
theorem KC.of_tn {own : Nat → Prop} {W W' : World} (x : Tn own W W') : KC own W W' := fun b _ _ _ hb hx => (x.2 b (Array.getElem?_eq_some_iff.1 hx).1 hb).trans hx
theorem KC.cell {own : Nat → Prop} {W W' : World} (h : KC own W W') {b o : Nat} {v : Value} (hb : ¬ own b) (hc : W.cell? ⟨b, o, none⟩ = some v) : W'.cell? ⟨b, o, none⟩ = some v := by
  unfold World.cell? at hc ⊢
  split at hc
  · rename_i C E fz hx
    rw [h b C E fz hb hx]; exact hc
  · simp at hc
set_option maxRecDepth 100000 in
set_option maxHeartbeats 2000000 in
theorem all1_in {own : Nat → Prop} {p d c cap : Nat} {ls : List Vc} (n : Nat) (hn : 1 ≤ n) (l Bs : Nat) (Z : Nat → Vc) (hZ : (fun j : Nat => ls[j]?.getD nought) = Z) (J Jx : List (Nat × Vc) → World → Prop) (W : World)
    (hJ : AbidesFrom W.heap.size J) (hown : ¬ own W.heap.size)
    (hY : ∀ pre x W1, J pre W1 → pre.length < ls.length → YieldAt Fence.wide (n - 1) Try.prog l #[.int .i64 (x.1 : Int), rv x.2] W1 fun e W' =>
      (e = .returned (.bool true) ∧ J (pre ++ [x]) W' ∧ KC own W1 W') ∨ (e = .returned (.bool false) ∧ Jx (pre ++ [x]) W'))
    (hBs : W.cell? ⟨Bs, 0, none⟩ = some (.pointer (some ⟨p, 0, none⟩))) (h : Rq W p d c cap ls) (h0 : J [] W) :
    CallsIn Fence.wide n Try.prog 39 #[.func (.yield l) #[] #[], .pointer (some ⟨Bs, 0, none⟩)] W fun e W' => (∃ v, e = .returned v) ∧
      ((∃ ys, ys = upto (fun j => (j, Z j)) ls.length ∧ J ys W') ∨ (∃ pre, (∃ k, k ≤ ls.length ∧ pre = upto (fun j => (j, Z j)) k) ∧ Jx pre W')) := by
  have HL := list_q W h
  rw [hZ] at HL
  have hle : ls.length ≤ 256 := by obtain ⟨h1, _, h2⟩ := h.le; omega
  clear hZ h
  generalize ls.length = len at *
  refine callsIn_of_wp Try.func39 rfl trivial ?_ rfl
  simp only [Try.ntmps39, List.size_toArray, List.length_cons, List.length_nil, Nat.reduceAdd, Nat.reduceSub, Array.replicate_succ, Array.replicate_zero, List.push_toArray, List.append_toArray, List.nil_append, List.cons_append]
  gi_wp2_with (refine ⟨trivial, ?_⟩; gi_at_call 40; refine (callsIn_wide.2 HL).mono ?_; rintro e W1 ⟨rfl, hL1⟩)
  have hx : Ext W W1 := hL1.choose_spec.2.2.2
  have hJ1 : J [] W1 := hJ [] W W1 none h0 ⟨hx.os, hx.tape, hx.output, hx.size, fun k hk _ => hx.block k hk⟩ (fun r e => by cases e)
  have hcA : ∀ j, j < len → C3 W1 W.heap.size (j * 3) (Z j) := fun j hj => hL1.at hj
  have hJa : ∀ s W1 o, J s W1 → J s (W1.alloc o) := fun s W1 o h => hJ s W1 _ none h (World.grownBy_alloc W1 o none) (fun r e => by cases e)
  clear hx HL h0 hBs hJ hL1
  generalize hN : W.heap.size = N at *
  clear hN
  gi_loopw [8] (fun i wr => ∃ k : Nat, k ≤ len ∧ i = .int .i64 k ∧ J (upto (fun j => (j, Z j)) k) wr ∧ KC own W1 wr)
    (fun i _ => len - (intOf i).toNat)
  case atStart => exact ⟨0, Nat.zero_le _, rfl, hJ1, KC.refl _ _⟩
  case round =>
    obtain ⟨k, hk, rfl, hJs, hnx⟩ := hrel
    by_cases hlt : k < len
    · obtain ⟨fn, tmps, assign, body, hy, hR⟩ := hY _ (k, Z k) (wr.alloc (cells3 (Z k))) (hJa _ _ _ hJs) (by rw [upto_length]; exact hlt)
      dsimp only at hy
      obtain ⟨a0, a1, a2⟩ := hcA k hlt
      have c0 := hnx.cell hown a0
      have c1 := hnx.cell hown a1
      have c2 := hnx.cell hown a2
      gi_wp2
      refine hR.mono ?_
      rintro e W3 (⟨rfl, hJ3, hk3⟩ | ⟨rfl, hJx3⟩)
      · gi_wp2
        go_roundw
        case rel => exact ⟨k + 1, by omega, by simp, by rw [upto_succ]; exact hJ3, (hnx.trans (KC.of_ext ((Ext.refl wr).alloc _))).trans hk3⟩
        case measure => simp [intOf]; omega
      · gi_wp2
        refine bodyPost_ret (results_none rfl _ _ _) rfl ?_
        exact ⟨⟨_, rfl⟩, .inr ⟨_, ⟨k + 1, by omega, (upto_succ _ _).symm⟩, hJx3⟩⟩
    · obtain rfl : k = len := by omega
      gi_wp2
      go_end0
      exact ⟨⟨_, rfl⟩, .inl ⟨_, rfl, hJs⟩⟩
theorem all_stops {own : Nat → Prop} {p d c cap : Nat} {ls : List Vc} (n : Nat) (hn : 1 ≤ n) (Bs : Nat) (w : World) (ho : ∀ k, own k → k < w.heap.size)
    (hBs : w.cell? ⟨Bs, 0, none⟩ = some (.pointer (some ⟨p, 0, none⟩))) (h : Rq w p d c cap ls) :
    SeqStopsK Fence.wide n Try.prog 39 #[.pointer (some ⟨Bs, 0, none⟩)] (fun x : Nat × Vc => #[Value.int .i64 (x.1 : Int), rv x.2]) (KC own) (fun ys => ys = upto (fun j => (j, ls[j]?.getD nought)) ls.length)
      (fun pre => ∃ k, k ≤ ls.length ∧ pre = upto (fun j => (j, ls[j]?.getD nought)) k) ls.length w := fun l J Jx W hW hJ _ hY h0 => by
  have hx : Ext w W := hW
  exact all1_in n hn l Bs _ rfl J Jx W hJ (fun e => by have := ho _ e; have := hx.size; omega) hY (hx.keepc hBs) (h.ext hx) h0
end Go.Proofs.Ytfooakbcgjebfaa
