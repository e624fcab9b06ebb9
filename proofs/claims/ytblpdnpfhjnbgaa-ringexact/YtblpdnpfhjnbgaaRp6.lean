/- New, Clear of a ring of pairs. -/
import Derived.Test.YtblpdnpfhjnbgaaRp5
import Derived.Deep.DeepCutAuto
namespace Go.Proofs.Ytblpdnpfhjnbgaa
open Go.RowKit Go.Conc
theorem infop : ∃ i, Try.prog.info? 30 = some i ∧ i.bytes = 24 ∧ i.size = 2 ∧ i.zero = some (.agg #[.int .i64 0, .string ⟨#[]⟩]) := by
  have h : (Try.prog.info? 30).map (fun i => (i.bytes, i.size, i.zero)) = some (24, 2, some (.agg #[.int .i64 0, .string ⟨#[]⟩])) := by kernel_rfl
  obtain ⟨i, hi, hb⟩ := Option.map_eq_some_iff.1 h
  simp only [Prod.mk.injEq] at hb
  exact ⟨i, hi, hb⟩
theorem mkslice_p (n : Nat) (hn : n ≤ 256) (w : World) : (Instr.makeSlice 33 (.int .i64 n) (.int .i64 n)).run Try.prog w = .ok (.slice (some ⟨w.heap.size, 0, none⟩) n n) (w.alloc (.cells (madeCells #[.int .i64 0, .string ⟨#[]⟩] (n * 2)) 30)) := by
  obtain ⟨i, hi, hb, hs, hz⟩ := infop
  have := run_make (P := Try.prog) w 33 30 i (.agg #[.int .i64 0, .string ⟨#[]⟩]) Try.underlying33 hi hz .i64 .i64 n n (by omega) (Int.le_refl _) (by rw [hb]; omega) (by omega)
  simpa [hs, Value.cells] using this
theorem flat_made (cap : Nat) : Flat (madeCells #[.int .i64 0, .string ⟨#[]⟩] (cap * 2)) (Array.replicate cap (pr 0 ⟨#[]⟩)) := by
  refine ⟨by rw [size_madeCells]; simp, fun i hi => ⟨0, ⟨#[]⟩, ?_, ?_, ?_⟩⟩
  · simp at hi; simp [hi]
  · simp at hi
    have : i * 2 < cap * 2 := by omega
    simp [madeCells, this]
  · simp at hi
    have h1 : i * 2 + 1 < cap * 2 := by omega
    have h2 : (i * 2 + 1) % 2 = 1 := by omega
    simp [madeCells, h1, h2]
set_option maxHeartbeats 1000000 in
theorem new_p (w : World) (cap : Nat) (h1 : 1 ≤ cap) (h2 : cap ≤ 256) :
    Calls Try.prog 6 #[.int .i64 cap] w fun e w' => ∃ p d c, e = .returned (.tuple #[.pointer (some ⟨p, 0, none⟩), .int .i64 0]) ∧ Rp w' p d c cap [] ∧ w.heap.size ≤ p ∧ w.heap.size ≤ d ∧ w.heap.size ≤ c ∧ Ext w w' := by
  have hmk := mkslice_p cap h2
  have hmc := mkchan cap h2
  have hA : Flat (madeCells #[.int .i64 0, .string ⟨#[]⟩] (cap * 2)) (Array.replicate cap (pr 0 ⟨#[]⟩)) := flat_made cap
  generalize madeCells #[.int .i64 0, .string ⟨#[]⟩] (cap * 2) = A at *
  go_enter Try.func6, Try.ntmps6
  go_upto_region 3 with fail
  go_cut [4] (fun v wx => ∃ p d c, v = .pointer (some ⟨p, 0, none⟩) ∧ Hid (NewTo w wx 61 30 p d c cap A 0))
  case first =>
    go_region
    · go_wp2_with fail
      go_meet
      exact ⟨_, _, _, rfl, ⟨rs_newA w cap A _ _, by omega, by omega, by omega, by omega, by omega, by omega, ((((Ext.refl w).alloc _).alloc _).alloc _).drew⟩⟩
    · go_wp2_with fail
      go_meet
      exact ⟨_, _, _, rfl, ⟨rs_newB w cap A _ _, by omega, by omega, by omega, by omega, by omega, by omega, ((((Ext.refl w).alloc _).alloc _).alloc _).drew⟩⟩
  case rest =>
    obtain ⟨p, d, c, rfl, hN⟩ := hcut
    clear hmk hmc
    go_wp2_with fail
    go_loopw [19] (fun i wr => ∃ k : Nat, k ≤ cap ∧ i = .int .i64 k ∧ Hid (NewTo w wr 61 30 p d c cap A k)) (fun i _ => cap - (intOf i).toNat)
    case atStart => exact ⟨0, Nat.zero_le _, rfl, hN⟩
    case round =>
      obtain ⟨k, hk, rfl, hR⟩ := hrel
      by_cases hlt : k < cap
      · go_upto_region 7 with fail
        obtain ⟨hr, bp, bd, bc, hpd, hpc, hdc, hx⟩ := hR.out
        obtain ⟨c0, c1, c2, f0, f1, f2⟩ := hr.lay
        have hN' : Hid (NewTo w (wr.setChan c cap ((freeTo k).push (.int .i64 k)) false (k + 1) 0 false) 61 30 p d c cap A (k + 1)) := ⟨by rw [freeTo_succ]; exact hr.setFree hpc hdc _ _ _, bp, bd, bc, hpd, hpc, hdc, below_setChan hx bc _ _ _ _ _ _⟩
        refine wp_region_comm 5 _ rfl ?_
        simp only [List.take_succ_cons, List.take_zero, List.drop_succ_cons, List.drop_zero]
        repeat still_step
        refine wpStill_nil ⟨rfl, _, _, hands_send (c := c) (v := .int .i64 k) (z := .tuple #[]) ?_ hr.2.2 (by rw [freeTo_size]; exact hlt), wpStill_nil ?_⟩
        · simp [go_sem, execOp, scase, Act.eval]
        generalize wr.setChan c cap ((freeTo k).push (.int .i64 k)) false (k + 1) 0 false = w2 at *
        clear hr bp bd bc hpd hpc hdc hx c0 c1 c2 f0 f1 f2 hR hN
        go_wp2_with fail
        go_round
        case measure => simp [intOf]; omega
        case rel => exact ⟨k + 1, by omega, by simp, hN'⟩
      · have hkc : k = cap := by omega
        subst hkc
        go_wp2_with fail
        go_ret2
        obtain ⟨hr, bp, bd, bc, hpd, hpc, hdc, hx⟩ := hR.out
        exact ⟨p, d, c, rfl, ⟨_, _, _, _, _, _, hr, hA, holds_new _ h1 h2 (Array.replicate k (pr 0 ⟨#[]⟩)) (by simp), hpd, hpc, hdc⟩, bp, bd, bc, hx⟩
set_option maxHeartbeats 1000000 in
theorem new_bad_p (w : World) (C : Int) (hC : C < 1 ∨ 256 < C) :
    Calls Try.prog 6 #[.int .i64 C] w fun e w' => e = .returned (.tuple #[.pointer none, .int .i64 1]) ∧ w' = w := by
  by_cases h1 : C < 1
  · go_enter Try.func6, Try.ntmps6
    go_wp2_with fail
    go_ret2
    exact ⟨rfl, rfl⟩
  · have h2 : 256 < C := by omega
    clear hC
    go_enter Try.func6, Try.ntmps6
    go_wp2_with fail
    go_ret2
    exact ⟨rfl, rfl⟩
theorem left_rp {w : World} {p d c cap : Nat} {l : List (Int × ByteArray)} (h : Rp w p d c cap l) : left w c = l.length := by
  obtain ⟨first, A, A', buf, s, r, h, hf, hh, hd⟩ := h
  have := hh.2.2.2.2.1
  rw [prs_len] at this
  simp only [left, h.2.2]
  omega
theorem Quiet.rp {w w' : World} {p d c cap : Nat} {l : List (Int × ByteArray)} (hq : Quiet w w') (h : Rp w p d c cap l) : Rp w' p d c cap l := by
  obtain ⟨n, rfl⟩ := hq; exact h.drewN n
set_option maxHeartbeats 2000000 in
theorem clear_p {p d c cap : Nat} {l : List (Int × ByteArray)} (w : World) (h : Rp w p d c cap l) :
    Calls Try.prog 12 #[.pointer (some ⟨p, 0, none⟩)] w fun e w' => (∃ v, e = .returned v) ∧ Rp w' p d c cap [] ∧ Turn p d c w w' := by
  have HP : Hid (∀ wr e0 (l : List (Int × ByteArray)), Rp wr p d c cap (e0 :: l) → Calls Try.prog 10 #[.pointer (some ⟨p, 0, none⟩)] wr fun e w' => (∃ u, e = .returned u) ∧ Rp w' p d c cap l ∧ Turn p d c wr w') := fun wr e0 l h => (pop_cons_p (n := e0.1) (x := e0.2) wr h).mono fun e w' ⟨he, hr, ht⟩ => ⟨⟨_, he⟩, hr, ht⟩
  have HL : Hid (∀ wr (l : List (Int × ByteArray)), Rp wr p d c cap l → Calls Try.prog 15 #[.pointer (some ⟨p, 0, none⟩)] wr fun e w' => e = .returned (.int .i64 l.length) ∧ Quiet wr w') := fun wr l h => len_l_p wr h
  obtain ⟨hle, h1, h2⟩ := h.le
  have HR : Hid (Rp w p d c cap l) := h
  clear h
  go_enter Try.func12, Try.ntmps12
  go_wp2_with fail
  go_loopw [2] (fun _ wr => ∃ k : List (Int × ByteArray), k.length ≤ 256 ∧ Hid (Rp wr p d c cap k ∧ Turn p d c w wr)) (fun _ wr => left wr c)
  case atStart => exact ⟨l, by omega, HR.out, Turn.refl _ _ _ _⟩
  case round =>
    obtain ⟨k, hk, hR⟩ := hrel
    have HK := HL.out wr k hR.out.1
    cases k with
    | nil =>
      go_wp2_with (go_at_call 15; refine HK.mono ?_; rintro e w1 ⟨rfl, q1⟩)
      go_end0
      exact ⟨⟨_, rfl⟩, q1.rp hR.out.1, hR.out.2.trans q1.turn⟩
    | cons x k =>
      have HPk : Hid (∀ w1, Quiet wr w1 → Calls Try.prog 10 #[.pointer (some ⟨p, 0, none⟩)] w1 fun e w' => (∃ u, e = .returned u) ∧ (Rp w' p d c cap k ∧ Turn p d c w w')) := fun w1 q1 => (HP.out w1 x k (q1.rp hR.out.1)).mono fun e w' ⟨he, hr, ht⟩ => ⟨he, hr, (hR.out.2.trans q1.turn).trans ht⟩
      have hm : left wr c = (x :: k).length := left_rp hR.out.1
      have HM : Hid (left wr c = (x :: k).length) := hm
      have hpos : 0 < (k.length : Int) + 1 := by omega
      simp only [List.length_cons, Int.natCast_add, Int.cast_ofNat_Int] at HK
      clear hm
      go_wp2_with (first | (go_at_call 15; refine HK.mono ?_; rintro e w1 ⟨rfl, q1⟩) | (go_at_call 10; refine (HPk.out _ q1).mono ?_; rintro e w2 ⟨⟨u, rfl⟩, h2⟩))
      have H2 : Hid (Rp w2 p d c cap k ∧ Turn p d c w w2) := h2
      clear h2
      go_roundw
      case measure => rw [left_rp H2.out.1, HM.out]; simp
      case rel => exact ⟨k, by simp at hk; omega, H2⟩
/-- a row of pairs that is being laid at block N -/
def LaidP (w wr : World) (N len k : Nat) (Zn : Nat → Int) (Zx : Nat → ByteArray) : Prop :=
  ∃ A : Array Value, wr.heap[N]? = some (.cells A Ep) ∧ A.size = len * 2 ∧ (∀ j, j < k → A[j * 2]? = some (.int .i64 (Zn j)) ∧ A[j * 2 + 1]? = some (.string (Zx j))) ∧ Ext w wr
section
variable {w wr wr' : World} {N len k : Nat} {Zn : Nat → Int} {Zx : Nat → ByteArray}
theorem LaidP.cell (h : LaidP w wr N len k Zn Zx) {j : Nat} (hj : j < len) : ((∃ v, wr.cell? ⟨N, j * 2, none⟩ = some v) ∧ ∃ v, wr.cell? ⟨N, j * 2 + 1, none⟩ = some v) ∧ wr.frozen? ⟨N, j * 2, none⟩ = false ∧ wr.frozen? ⟨N, j * 2 + 1, none⟩ = false := by
  obtain ⟨A, h1, h2, _⟩ := h
  refine ⟨⟨⟨A[j * 2]'(by omega), ?_⟩, ⟨A[j * 2 + 1]'(by omega), ?_⟩⟩, ?_, ?_⟩
  · simp only [World.cell?, h1]; simp [show j * 2 < A.size by omega]
  · simp only [World.cell?, h1]; simp [show j * 2 + 1 < A.size by omega]
  · simp [World.frozen?, h1]
  · simp [World.frozen?, h1]
theorem LaidP.ext (h : LaidP w wr N len k Zn Zx) (hx : Ext wr wr') : LaidP w wr' N len k Zn Zx := by
  obtain ⟨A, h1, h2, h3, hx0⟩ := h
  exact ⟨A, (hx.block N (Array.getElem?_eq_some_iff.1 h1).1).trans h1, h2, h3, hx0.trans hx⟩
theorem LaidP.set (h : LaidP w wr N len k Zn Zx) (hN : w.heap.size ≤ N) (hk : k < len) : LaidP w ((wr.setCell ⟨N, k * 2, none⟩ (.int .i64 (Zn k))).setCell ⟨N, k * 2 + 1, none⟩ (.string (Zx k))) N len (k + 1) Zn Zx := by
  obtain ⟨A, h1, h2, h3, hx⟩ := h
  refine ⟨_, heap_setCell_at _ _ _ _ (heap_setCell_at _ _ _ _ h1), by simpa using h2, fun j hj => ?_, Below.setCell (Below.setCell hx (p := ⟨N, k * 2, none⟩) hN _) (p := ⟨N, k * 2 + 1, none⟩) hN _⟩
  by_cases e : j = k
  · subst e
    rw [Array.getElem?_setIfInBounds_ne (by omega), Array.getElem?_setIfInBounds_self_of_lt (by omega), Array.getElem?_setIfInBounds_self_of_lt (by simp; omega)]
    exact ⟨rfl, rfl⟩
  · rw [Array.getElem?_setIfInBounds_ne (by omega), Array.getElem?_setIfInBounds_ne (by omega), Array.getElem?_setIfInBounds_ne (by omega), Array.getElem?_setIfInBounds_ne (by omega)]
    exact h3 j (by omega)
theorem laidp_new {n : Nat} {A : Array Value} (hA : A.size = len * 2) : LaidP w ((w.drewN n).alloc (.cells A Ep)) w.heap.size len 0 Zn Zx :=
  ⟨A, heap_alloc_new (w.drewN n) _, hA, fun _ hj => absurd hj (Nat.not_lt_zero _), (drewN_ext n).alloc _⟩
end
set_option maxHeartbeats 2000000 in
theorem list_p {p d c cap : Nat} {l : List (Int × ByteArray)} (w : World) (h : Rp w p d c cap l) (Zn : Nat → Int) (Zx : Nat → ByteArray) (hZ : ∀ j, j < l.length → l[j]? = some (Zn j, Zx j)) :
    Calls Try.prog 40 #[.pointer (some ⟨p, 0, none⟩)] w fun e w' => e = .returned (.slice (some ⟨w.heap.size, 0, none⟩) l.length l.length) ∧ LaidP w w' w.heap.size l.length l.length Zn Zx := by
  obtain ⟨hle, h1, h2⟩ := h.le
  have HL : Calls Try.prog 15 #[.pointer (some ⟨p, 0, none⟩)] w fun e w' => e = .returned (.int .i64 l.length) ∧ ∃ n, w' = w.drewN n := len_l_p w h
  have hmk := mkslice_p l.length (by omega)
  have hA : (madeCells #[.int .i64 0, .string ⟨#[]⟩] (l.length * 2)).size = l.length * 2 := size_madeCells _ _
  generalize madeCells #[.int .i64 0, .string ⟨#[]⟩] (l.length * 2) = A at *
  have HAt : Hid (∀ k wr, k < l.length → LaidP w wr w.heap.size l.length k Zn Zx → Calls Try.prog 11 #[.pointer (some ⟨p, 0, none⟩), .int .i64 (k : Nat)] wr fun e w' => e = .returned (.tuple #[pr (Zn k) (Zx k), .bool true]) ∧ LaidP w w' w.heap.size l.length k Zn Zx) := fun k wr hk hl => by
    have hx : Ext w wr := by obtain ⟨_, _, _, _, hx⟩ := hl; exact hx
    refine (at_in_l_p wr (h.ext hx) k (hZ k hk)).mono ?_
    rintro e w' ⟨rfl, hx'⟩
    exact ⟨rfl, hl.ext hx'⟩
  have hlen' : l.length ≤ 256 := by omega
  generalize l.length = len at *
  clear h hle hZ
  go_enter Try.func40, Try.ntmps40
  go_wp2_with (go_at_call 15; refine HL.mono ?_; rintro e w1 ⟨rfl, n1, rfl⟩)
  have hL0 : Hid (LaidP w ((w.drewN n1).alloc (.cells A Ep)) w.heap.size len 0 Zn Zx) := laidp_new hA
  generalize (w.drewN n1).alloc (.cells A Ep) = w2 at *
  clear hmk HL hA
  go_loopw [10] (fun i wr => ∃ k : Nat, k ≤ len ∧ i = .int .i64 k ∧ Hid (LaidP w wr w.heap.size len k Zn Zx)) (fun i _ => len - (intOf i).toNat)
  case atStart => exact ⟨0, Nat.zero_le _, rfl, hL0⟩
  case round =>
    obtain ⟨k, hk, rfl, hR⟩ := hrel
    by_cases hlt : k < len
    · have HK := HAt.out k wr hlt hR.out
      go_wp2_with (go_at_call 11; refine HK.mono ?_; rintro e w3 ⟨rfl, hL3⟩; obtain ⟨⟨⟨v3, c3⟩, ⟨v4, c4⟩⟩, f3, f4⟩ := hL3.cell hlt)
      have hL4 : Hid (LaidP w ((w3.setCell ⟨w.heap.size, k * 2, none⟩ (.int .i64 (Zn k))).setCell ⟨w.heap.size, k * 2 + 1, none⟩ (.string (Zx k))) w.heap.size len (k + 1) Zn Zx) := hL3.set (Nat.le_refl _) hlt
      clear HK hL3 c3 f3 c4 f4
      go_roundw
      case measure => simp [intOf]; omega
      case rel => exact ⟨k + 1, by omega, by simp, hL4⟩
    · have : k = len := by omega
      subst this
      go_wp2_with fail
      go_ret
      exact ⟨rfl, hR.out⟩
set_option maxHeartbeats 1000000 in
theorem all_p (p : Nat) (w : World) : Calls Try.prog 30 #[.pointer (some ⟨p, 0, none⟩)] w fun e w' => e = .returned (.func (.func 39) #[] #[.pointer (some ⟨w.heap.size, 0, none⟩)]) ∧ w' = w.alloc (.cells #[.pointer (some ⟨p, 0, none⟩)] 25) := by
  go_enter Try.func30, Try.ntmps30
  go_wp2_with fail
  go_ret
  exact ⟨rfl, rfl⟩
end Go.Proofs.Ytblpdnpfhjnbgaa
