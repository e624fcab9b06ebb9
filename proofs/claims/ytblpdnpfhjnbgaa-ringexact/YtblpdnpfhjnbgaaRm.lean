/- list, All, Clear of a ring of ints. -/
import Derived.Test.YtblpdnpfhjnbgaaL5
import Derived.Test.YtblpdnpfhjnbgaaRo
namespace Go.Proofs.Ytblpdnpfhjnbgaa
open Go.RowKit Go.Conc
/-- a list of numbers as values -/
def vals (zs : List Int) : List Value := zs.map fun z => (.int .i64 z : Value)
theorem vals_len (zs : List Int) : (vals zs).length = zs.length := by simp [vals]
theorem vals_at (zs : List Int) {k : Nat} (h : k < zs.length) : (vals zs).getD k (.int .i64 0) = .int .i64 (zs[k]?.getD 0) := by
  simp [vals, List.getElem?_eq_getElem h]
/-- a row of numbers that is being laid at block N -/
def Laid (w wr : World) (N len k : Nat) (zs : Nat → Int) : Prop :=
  ∃ A : Array Value, wr.heap[N]? = some (.cells A 3) ∧ A.size = len ∧ (∀ j, j < k → A[j]? = some (.int .i64 (zs j))) ∧ Ext w wr
theorem Laid.ring {w wr : World} {N len k : Nat} {zs : Nat → Int} (h : Laid w wr N len k zs) {p d c cap : Nat} {l : List Value} (hr : Ri w p d c cap l) : Ri wr p d c cap l := by
  obtain ⟨A, _, _, _, hx⟩ := h; exact IsRing.ext hr hx
theorem Laid.cell {w wr : World} {N len k : Nat} {zs : Nat → Int} (h : Laid w wr N len k zs) {j : Nat} (hj : j < len) : (∃ v, wr.cell? ⟨N, j, none⟩ = some v) ∧ wr.frozen? ⟨N, j, none⟩ = false := by
  obtain ⟨A, h1, h2, _⟩ := h
  refine ⟨⟨A[j]'(by omega), ?_⟩, ?_⟩
  · simp only [World.cell?, h1]; simp [show j < A.size by omega]
  · simp [World.frozen?, h1]
theorem Laid.drewN {w wr : World} {N len k : Nat} {zs : Nat → Int} (h : Laid w wr N len k zs) (n : Nat) : Laid w (wr.drewN n) N len k zs := by
  obtain ⟨A, h1, h2, h3, hx⟩ := h
  exact ⟨A, h1, h2, h3, hx.os, hx.tape, hx.output, hx.size, hx.block⟩
theorem Laid.set {w wr : World} {N len k : Nat} {zs : Nat → Int} (h : Laid w wr N len k zs) (hN : w.heap.size ≤ N) (hk : k < len) : Laid w (wr.setCell ⟨N, k, none⟩ (.int .i64 (zs k))) N len (k + 1) zs := by
  obtain ⟨A, h1, h2, h3, hx⟩ := h
  refine ⟨_, heap_setCell_at _ _ _ _ h1, by simpa using h2, fun j hj => ?_, Below.setCell hx hN _⟩
  by_cases e : j = k
  · subst e; rw [Array.getElem?_setIfInBounds_self_of_lt (by omega)]
  · rw [Array.getElem?_setIfInBounds_ne (fun h => e h.symm)]; exact h3 j (by omega)
theorem laid_new {w : World} {n len : Nat} {zs : Nat → Int} {A : Array Value} (hA : A.size = len) : Laid w ((w.drewN n).alloc (.cells A 3)) w.heap.size len 0 zs := by
  refine ⟨A, heap_alloc_new (w.drewN n) _, hA, fun j hj => absurd hj (Nat.not_lt_zero _), ?_⟩
  have h : Ext w (w.drewN n) := ⟨rfl, rfl, rfl, Nat.le_refl _, fun _ _ => rfl⟩
  exact h.alloc _
set_option maxHeartbeats 2000000 in
theorem list_i {p d c cap : Nat} {zs : List Int} (w : World) (h : Ri w p d c cap (vals zs)) (Z : Nat → Int) (hZ : ∀ j, j < zs.length → zs[j]?.getD 0 = Z j) :
    Calls Try.prog 38 #[.pointer (some ⟨p, 0, none⟩)] w fun e w' => e = .returned (.slice (some ⟨w.heap.size, 0, none⟩) zs.length zs.length) ∧ Laid w w' w.heap.size zs.length zs.length Z := by
  obtain ⟨hle, h1, h2⟩ := h.le
  rw [vals_len] at hle
  have HL := len_l_i w h
  rw [vals_len] at HL
  have hmk := mkslice_i zs.length (by omega)
  have hA : (madeCells #[.int .i64 0] zs.length).size = zs.length := size_madeCells _ _
  generalize madeCells #[.int .i64 0] zs.length = A at *
  have HAt : Hid (∀ k wr, k < zs.length → Laid w wr w.heap.size zs.length k Z → Calls Try.prog 26 #[.pointer (some ⟨p, 0, none⟩), .int .i64 (k : Nat)] wr fun e w' => e = .returned (.tuple #[.int .i64 (Z k), .bool true]) ∧ Laid w w' w.heap.size zs.length k Z) := fun k wr hk hl => by
    have := at_l_i wr (hl.ring h) (k : Int)
    rw [if_pos (by rw [vals_len]; omega), Int.toNat_natCast, vals_at _ hk, hZ k hk] at this
    refine this.mono ?_
    rintro e w' ⟨rfl, n, rfl⟩
    exact ⟨rfl, hl.drewN n⟩
  have hlen' : zs.length ≤ 256 := by omega
  generalize hlen : zs.length = len at *
  clear h hle hZ hlen
  go_enter Try.func38, Try.ntmps38
  go_wp2_with (go_at_call 23; refine HL.mono ?_; rintro e w1 ⟨rfl, n1, rfl⟩)
  have hL0 : Hid (Laid w ((w.drewN n1).alloc (.cells A 3)) w.heap.size len 0 Z) := laid_new hA
  generalize (w.drewN n1).alloc (.cells A 3) = w2 at *
  clear hmk HL hA
  go_loopw [10] (fun i wr => ∃ k : Nat, k ≤ len ∧ i = .int .i64 k ∧ Hid (Laid w wr w.heap.size len k Z)) (fun i _ => len - (intOf i).toNat)
  case atStart => exact ⟨0, Nat.zero_le _, rfl, hL0⟩
  case round =>
    obtain ⟨k, hk, rfl, hR⟩ := hrel
    by_cases hlt : k < len
    · have HK := HAt.out k wr hlt hR.out
      go_wp2_with (go_at_call 26; refine HK.mono ?_; rintro e w3 ⟨rfl, hL3⟩; obtain ⟨⟨v3, c3⟩, f3⟩ := hL3.cell hlt)
      have hL4 : Hid (Laid w (w3.setCell ⟨w.heap.size, k, none⟩ (.int .i64 (Z k))) w.heap.size len (k + 1) Z) := hL3.set (Nat.le_refl _) hlt
      clear HK hL3 c3 f3
      go_roundw
      case measure => simp [intOf]; omega
      case rel => exact ⟨k + 1, by omega, by simp, hL4⟩
    · have : k = len := by omega
      subst this
      go_wp2_with fail
      go_ret
      exact ⟨rfl, hR.out⟩
set_option maxHeartbeats 1000000 in
theorem all_i (p : Nat) (w : World) : Calls Try.prog 25 #[.pointer (some ⟨p, 0, none⟩)] w fun e w' => e = .returned (.func (.func 37) #[] #[.pointer (some ⟨w.heap.size, 0, none⟩)]) ∧ w' = w.alloc (.cells #[.pointer (some ⟨p, 0, none⟩)] 44) := by
  go_enter Try.func25, Try.ntmps25
  go_wp2_with fail
  go_ret
  exact ⟨rfl, rfl⟩
/-- how many things lie in the ring whose free places wait in c -/
def left (w : World) (c : Nat) : Nat := match w.heap[c]? with
  | some (.chan cap buf _ _ _ _) => cap - buf.size
  | _ => 0
theorem left_ring {w : World} {T E : TypeId} {p d c cap : Nat} {l : List Value} (h : IsRing w T E p d c cap l) : left w c = l.length := by
  obtain ⟨first, A, buf, s, r, h, hh, hd⟩ := h
  have := hh.2.2.2.2.1
  simp only [left, h.2.2]
  omega
theorem Quiet.turn {w w' : World} {p d c : Nat} (h : Quiet w w') : Turn p d c w w' := by obtain ⟨n, rfl⟩ := h; exact drewN_turn n
set_option maxHeartbeats 2000000 in
theorem clear_i {p d c cap : Nat} {l : List Value} (w : World) (h : Ri w p d c cap l) :
    Calls Try.prog 27 #[.pointer (some ⟨p, 0, none⟩)] w fun e w' => (∃ v, e = .returned v) ∧ Ri w' p d c cap [] ∧ Turn p d c w w' := by
  have HP : Hid (∀ wr (l : List Value), Ri wr p d c cap l → Calls Try.prog 19 #[.pointer (some ⟨p, 0, none⟩)] wr fun e w' => (∃ u, e = .returned u) ∧ Ri w' p d c cap l.tail ∧ Turn p d c wr w') := fun wr l h => (pop_i wr h).mono fun e w' ⟨he, hr, ht⟩ => ⟨⟨_, he⟩, hr, ht⟩
  have HL : Hid (∀ wr (l : List Value), Ri wr p d c cap l → Calls Try.prog 23 #[.pointer (some ⟨p, 0, none⟩)] wr fun e w' => e = .returned (.int .i64 l.length) ∧ Quiet wr w') := fun wr l h => len_l_i wr h
  obtain ⟨hle, h1, h2⟩ := h.le
  have HR : Hid (Ri w p d c cap l) := h
  clear h
  go_enter Try.func27, Try.ntmps27
  go_wp2_with fail
  go_loopw [2] (fun _ wr => ∃ k : List Value, k.length ≤ 256 ∧ Hid (Ri wr p d c cap k ∧ Turn p d c w wr)) (fun _ wr => left wr c)
  case atStart => exact ⟨l, by omega, HR.out, Turn.refl _ _ _ _⟩
  case round =>
    obtain ⟨k, hk, hR⟩ := hrel
    have HK := HL.out wr k hR.out.1
    cases k with
    | nil =>
      go_wp2_with (go_at_call 23; refine HK.mono ?_; rintro e w1 ⟨rfl, q1⟩)
      go_end0
      exact ⟨⟨_, rfl⟩, q1.ring hR.out.1, hR.out.2.trans q1.turn⟩
    | cons x k =>
      have HPk : Hid (∀ w1, Quiet wr w1 → Calls Try.prog 19 #[.pointer (some ⟨p, 0, none⟩)] w1 fun e w' => (∃ u, e = .returned u) ∧ (Ri w' p d c cap k ∧ Turn p d c w w')) := fun w1 q1 => (HP.out w1 (x :: k) (q1.ring hR.out.1)).mono fun e w' ⟨he, hr, ht⟩ => ⟨he, hr, (hR.out.2.trans q1.turn).trans ht⟩
      have hm : left wr c = (x :: k).length := left_ring hR.out.1
      have HM : Hid (left wr c = (x :: k).length) := hm
      have hpos : 0 < (k.length : Int) + 1 := by omega
      simp only [List.length_cons, Int.natCast_add, Int.cast_ofNat_Int] at HK
      clear hm
      go_wp2_with (first | (go_at_call 23; refine HK.mono ?_; rintro e w1 ⟨rfl, q1⟩) | (go_at_call 19; refine (HPk.out _ q1).mono ?_; rintro e w2 ⟨⟨u, rfl⟩, h2⟩))
      have H2 : Hid (Ri w2 p d c cap k ∧ Turn p d c w w2) := h2
      clear h2
      go_roundw
      case measure => rw [left_ring H2.out.1, HM.out]; simp
      case rel => exact ⟨k, by simp at hk; omega, H2⟩
end Go.Proofs.Ytblpdnpfhjnbgaa
