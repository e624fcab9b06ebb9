/- A ring of vectors: Push into a full one; list, All. -/
import Derived.Test.YtfooakbcgjebfaaMde
namespace Go.Proofs.Ytfooakbcgjebfaa
open Go.RowKit Go.Conc
/-- a list that is pushed to -/
def pushL (cap : Nat) (l : List Vc) (x : Vc) : List Vc := if l.length < cap then l ++ [x] else l.tail ++ [x]
section
variable {p d c cap : Nat} {l : List Vc}
theorem lay_full_lq (w : World) (h : Rq w p d c cap l) (x : Vc) (hl : l.length = cap) :
    Calls Try.prog 37 #[.pointer (some ⟨p, 0, none⟩), rv x] w fun e w' => e = .returned (.bool false) ∧ Ext w w' := by
  obtain ⟨first, A, A', buf, s, r, h, hf, hh, hpd, hpc, hdc⟩ := h
  have hs := hh.2.2.2.2.1
  rw [rvs_len] at hs
  have hb : buf = #[] := Array.eq_empty_of_size_eq_zero (by omega)
  subst hb
  exact lay_full_q w h x
set_option maxRecDepth 20000 in
set_option maxHeartbeats 2000000 in
theorem push_full {y : Vc} (w : World) (h : Rq w p d c cap (y :: l)) (x : Vc) (hl : l.length + 1 = cap) :
    Calls Try.prog 29 #[.pointer (some ⟨p, 0, none⟩), rv x] w fun e w' => e = .returned (.tuple #[rv y, .bool true]) ∧ Rq w' p d c cap (l ++ [x]) ∧ Turn p d c w w' := by
  obtain ⟨hV, hZ, hx⟩ := three_vars w x
  have hX : P3 (((w.alloc (cells3 x)).alloc cells0).alloc cells0) w.heap.size x := ((p3_at rfl).alloc _).alloc _
  obtain ⟨lp, ld, lc⟩ := h.lt
  have HL := lay_full_lq _ (h.ext hx) x (by simpa using hl)
  have HR0 : Hid (Rq (((w.alloc (cells3 x)).alloc cells0).alloc cells0) p d c cap (y :: l)) := h.ext hx
  have nX : Hid (w.heap.size ≠ p ∧ w.heap.size ≠ d ∧ w.heap.size ≠ c) := by show _ ∧ _; omega
  have nV : Hid (w.heap.size + 1 ≠ p ∧ w.heap.size + 1 ≠ d ∧ w.heap.size + 1 ≠ c) := by show _ ∧ _; omega
  have HVX : Hid (P3 _ w.heap.size x) := hX
  have HVV : Hid (P3 _ (w.heap.size + 1) nought) := hV
  have HXX : Hid (Ext w _) := hx
  have HLL : Hid (l.length + 1 = cap) := hl
  clear hV hZ h hl hX hx lp ld lc
  go_enter Try.func29, Try.ntmps29
  go_upto_region 4 with (go_at_call 37; refine HL.mono ?_; rintro e w1 ⟨rfl, hx1⟩)
  have HP : Calls Try.prog 38 #[.pointer (some ⟨p, 0, none⟩)] w1 fun e w' => e = .returned (.tuple #[rv y, .bool true]) ∧ Rq w' p d c cap l ∧ Turn p d c w1 w' := pop_lq w1 (HR0.out.ext hx1)
  have X1 := HVX.out.ext hx1
  have V1 := HVV.out.ext hx1
  have T1 : Turn p d c w w1 := Turn.of_ext (HXX.out.trans hx1)
  have HX1 : Hid (P3 w1 w.heap.size x ∧ P3 w1 (w.heap.size + 1) nought ∧ Turn p d c w w1) := ⟨X1, V1, T1⟩
  clear HR0 HVX HVV HXX hx1 HL X1 V1 T1
  go_upto_region 5 with (go_at_call 38; refine HP.mono ?_; rintro e w2 ⟨rfl, hr2, ht2⟩)
  obtain ⟨X1, V1, T1⟩ := HX1.out
  have hr3 : Rq (w2.alloc (cells3 y)) p d c cap l := hr2.ext ((Ext.refl w2).alloc _)
  have X3 : P3 (w2.alloc (cells3 y)) w.heap.size x := (X1.turn ht2 nX.out).alloc _
  have V3 : Hid (P3 (w2.alloc (cells3 y)) (w.heap.size + 1) nought) := (V1.turn ht2 nV.out).alloc _
  have Y3 : Hid (P3 (w2.alloc (cells3 y)) w2.heap.size y) := p3_at rfl
  have nY : Hid (w2.heap.size ≠ p ∧ w2.heap.size ≠ d ∧ w2.heap.size ≠ c) := by
    obtain ⟨a, b, e⟩ := hr2.lt
    show _ ∧ _; omega
  have T3 : Hid (Turn p d c w (w2.alloc (cells3 y))) := (T1.trans ht2).alloc _
  have hne : w2.heap.size ≠ w.heap.size + 1 := by
    have h1 := (V1.turn ht2 nV.out).lt
    omega
  have hne2 : w.heap.size + 1 ≠ w2.heap.size := hne.symm
  clear HX1 X1 V1 T1 hr2 ht2 HP
  generalize w2.alloc (cells3 y) = W3 at *
  generalize w2.heap.size = Y at *
  have HL2 := lay_lq W3 hr3 x (by have := HLL.out; omega)
  obtain ⟨⟨x0, x1, x2⟩, xf0, xf1, xf2⟩ := X3
  clear hr3
  go_upto_region 6 with (go_at_call 37; refine HL2.mono ?_; rintro e w4 ⟨rfl, hr4, ht4⟩)
  have V4 := V3.out.turn ht4 nV.out
  have Y4 := Y3.out.turn ht4 nY.out
  have T4 : Turn p d c w w4 := T3.out.trans ht4
  have HR : Hid (Rq (put3 w4 (w.heap.size + 1) 0 y) p d c cap (l ++ [x]) ∧ Turn p d c w (put3 w4 (w.heap.size + 1) 0 y)) := ⟨hr4.put3 nV.out 0 y, T4.put3 (.inl (Nat.le_succ _)) 0 y⟩
  obtain ⟨⟨y0, y1, y2⟩, _⟩ := Y4
  obtain ⟨⟨v0, v1, v2⟩, vf0, vf1, vf2⟩ := V4
  clear hr4 ht4 T4 HL2 x0 x1 x2 xf0 xf1 xf2 V3 Y3 T3
  go_wp2_with fail
  exact bodyPost_ret (v := .tuple #[rv y, .bool true]) (by simp [results, Try.results29, go_sem, v0, v1, v2]) rfl ⟨rfl, HR.out.1, HR.out.2⟩
theorem push_any (w : World) (h : Rq w p d c cap l) (x : Vc) :
    Calls Try.prog 29 #[.pointer (some ⟨p, 0, none⟩), rv x] w fun e w' => (∃ v, e = .returned v) ∧ Rq w' p d c cap (pushL cap l x) ∧ Turn p d c w w' := by
  unfold pushL
  by_cases hl : l.length < cap
  · rw [if_pos hl]
    refine (push_lq w h x hl).mono ?_
    rintro e w' ⟨rfl, h1, h2⟩
    exact ⟨⟨_, rfl⟩, h1, h2⟩
  · rw [if_neg hl]
    obtain ⟨hle, h1, _⟩ := h.le
    cases l with
    | nil => simp at hl; omega
    | cons y l =>
      refine (push_full w h x (by simp at hl hle; omega)).mono ?_
      rintro e w' ⟨rfl, h1, h2⟩
      exact ⟨⟨_, rfl⟩, h1, h2⟩
end
/-- a row of vectors that is being laid at block N -/
def Laid (w wr : World) (N len k : Nat) (zs : Nat → Vc) : Prop :=
  ∃ A : Array Value, wr.heap[N]? = some (.cells A Erw) ∧ A.size = len * 3 ∧ (∀ j, j < k → A3 A (j * 3) (zs j)) ∧ Ext w wr
section
variable {w wr wx : World} {N len k : Nat} {zs : Nat → Vc}
theorem Laid.ring (h : Laid w wr N len k zs) {p d c cap : Nat} {l : List Vc} (hr : Rq w p d c cap l) : Rq wr p d c cap l := by
  obtain ⟨A, _, _, _, hx⟩ := h; exact hr.ext hx
theorem Laid.cell (h : Laid w wr N len k zs) {j : Nat} (hj : j < len * 3) : (∃ v, wr.cell? ⟨N, j, none⟩ = some v) ∧ wr.frozen? ⟨N, j, none⟩ = false := by
  obtain ⟨A, h1, h2, _⟩ := h
  refine ⟨⟨A[j]'(by omega), ?_⟩, ?_⟩
  · simp only [World.cell?, h1]; simp [show j < A.size by omega]
  · simp [World.frozen?, h1]
theorem Laid.ext (h : Laid w wr N len k zs) (x : Ext wr wx) : Laid w wx N len k zs := by
  obtain ⟨A, h1, h2, h3, hx⟩ := h
  exact ⟨A, (x.blk (Array.getElem?_eq_some_iff.1 h1).1).trans h1, h2, h3, hx.trans x⟩
theorem Laid.set (h : Laid w wr N len k zs) (hN : w.heap.size ≤ N) (hk : k < len) : Laid w (put3 wr N (k * 3) (zs k)) N len (k + 1) zs := by
  obtain ⟨A, h1, h2, h3, hx⟩ := h
  refine ⟨set3 A (k * 3) (zs k), heap_setCell_at _ _ _ _ (heap_setCell_at _ _ _ _ (heap_setCell_at _ _ _ _ h1)), by rw [set3_size]; exact h2, fun j hj => ?_, hx.put3 hN _ _⟩
  by_cases e : j = k
  · subst e; exact set3_at _ _ _ (by omega)
  · obtain ⟨a0, a1, a2⟩ := h3 j (by omega)
    refine ⟨?_, ?_, ?_⟩ <;> (rw [set3_ne _ _ _ _ (by omega)]; assumption)
theorem Laid.at (h : Laid w wr N len k zs) {j : Nat} (hj : j < k) : C3 wr N (j * 3) (zs j) := by
  obtain ⟨A, h1, _, h3, _⟩ := h
  obtain ⟨a0, a1, a2⟩ := h3 j hj
  refine ⟨?_, ?_, ?_⟩
  · simp only [World.cell?, h1]; simpa using a0
  · simp only [World.cell?, h1]; simpa using a1
  · simp only [World.cell?, h1]; simpa using a2
theorem laid_new {n : Nat} {A : Array Value} (hA : A.size = len * 3) : Laid w ((w.drewN n).alloc (.cells A Erw)) w.heap.size len 0 zs :=
  ⟨A, heap_alloc_new (w.drewN n) _, hA, fun _ hj => absurd hj (Nat.not_lt_zero _), (drewN_ext n).alloc _⟩
end
theorem at_lq {p d c cap : Nat} {l : List Vc} (w : World) (h : Rq w p d c cap l) (k : Nat) (hk : k < l.length) :
    Calls Try.prog 44 #[.pointer (some ⟨p, 0, none⟩), .int .i64 (k : Nat)] w fun e w' => e = .returned (.tuple #[rv (l[k]?.getD nought), .bool true]) ∧ Ext w w' := by
  obtain ⟨first, A, A', buf, s, r, h, hf, hh, hpd, hpc, hdc⟩ := h
  have hs := hh.2.2.2.2.1
  have hA := hh.2.2.2.2.2.2 k (by rw [rvs_len]; exact hk)
  rw [rvs_len] at hs
  have he : (rvs l)[k]? = some (rv (l[k]?.getD nought)) := by simp [rvs, List.getElem?_eq_getElem hk]
  rw [he] at hA
  exact at_in_q w h k hh.2.2.1 hh.2.1 hs hk (hf.at hA)
set_option maxRecDepth 20000 in
set_option maxHeartbeats 2000000 in
theorem list_q {p d c cap : Nat} {l : List Vc} (w : World) (h : Rq w p d c cap l) :
    Calls Try.prog 40 #[.pointer (some ⟨p, 0, none⟩)] w fun e w' => e = .returned (.slice (some ⟨w.heap.size, 0, none⟩) l.length l.length) ∧ Laid w w' w.heap.size l.length l.length (fun j => l[j]?.getD nought) := by
  obtain ⟨hle, h1, h2⟩ := h.le
  have HL : Calls Try.prog 30 #[.pointer (some ⟨p, 0, none⟩)] w fun e w' => e = .returned (.int .i64 l.length) ∧ Quiet w w' := len_lq w h
  have hmk := mkslice_q l.length (by omega)
  have hA : (madeCells zero3 (l.length * 3)).size = l.length * 3 := size_madeCells _ _
  generalize madeCells zero3 (l.length * 3) = A at *
  generalize hZ : (fun j : Nat => l[j]?.getD nought) = Z
  have HAt : Hid (∀ k wr, k < l.length → Laid w wr w.heap.size l.length k Z → Calls Try.prog 44 #[.pointer (some ⟨p, 0, none⟩), .int .i64 (k : Nat)] wr fun e w' => e = .returned (.tuple #[rv (Z k), .bool true]) ∧ Laid w w' w.heap.size l.length k Z) := fun k wr hk hl => by
    have := at_lq wr (hl.ring h) k hk
    rw [show l[k]?.getD nought = Z k by rw [← hZ]] at this
    refine this.mono ?_
    rintro e w' ⟨rfl, hx⟩
    exact ⟨rfl, hl.ext hx⟩
  have hlen' : l.length ≤ 256 := by omega
  generalize hlen : l.length = len at *
  clear h hle hZ hlen
  go_enter Try.func40, Try.ntmps40
  go_wp2_with (go_at_call 30; refine HL.mono ?_; rintro e w1 ⟨rfl, n1, rfl⟩)
  have hL0 : Hid (Laid w ((w.drewN n1).alloc (.cells A Erw)) w.heap.size len 0 Z) := laid_new hA
  generalize (w.drewN n1).alloc (.cells A Erw) = w2 at *
  clear hmk HL hA
  go_loopw [10] (fun i wr => ∃ k : Nat, k ≤ len ∧ i = .int .i64 k ∧ Hid (Laid w wr w.heap.size len k Z)) (fun i _ => len - (intOf i).toNat)
  case atStart => exact ⟨0, Nat.zero_le _, rfl, hL0⟩
  case round =>
    obtain ⟨k, hk, rfl, hR⟩ := hrel
    by_cases hlt : k < len
    · have HK := HAt.out k wr hlt hR.out
      generalize hN : w.heap.size = N at *
      have HN : Hid (w.heap.size ≤ N) := Nat.le_of_eq hN
      clear hN
      go_wp2_with (go_at_call 44; refine HK.mono ?_; rintro e w3 ⟨rfl, hL3⟩; obtain ⟨⟨v0, c0⟩, f0⟩ := hL3.cell (j := k * 3) (by omega); obtain ⟨⟨v1, c1⟩, f1⟩ := hL3.cell (j := k * 3 + 1) (by omega); obtain ⟨⟨v2, c2⟩, f2⟩ := hL3.cell (j := k * 3 + 2) (by omega))
      have hL4 : Hid (Laid w (put3 w3 N (k * 3) (Z k)) N len (k + 1) Z) := hL3.set HN.out hlt
      clear HK hL3 c0 c1 c2 f0 f1 f2
      go_roundw
      case measure => simp [intOf]; omega
      case rel => exact ⟨k + 1, by omega, by simp, hL4⟩
    · have : k = len := by omega
      subst this
      go_wp2_with fail
      go_ret
      exact ⟨rfl, hR.out⟩
set_option maxHeartbeats 1000000 in
theorem all_q (p : Nat) (w : World) : Calls Try.prog 31 #[.pointer (some ⟨p, 0, none⟩)] w fun e w' => e = .returned (.func (.func 39) #[] #[.pointer (some ⟨w.heap.size, 0, none⟩)]) ∧ w' = w.alloc (.cells #[.pointer (some ⟨p, 0, none⟩)] 56) := by
  go_enter Try.func31, Try.ntmps31
  go_wp2_with fail
  go_ret
  exact ⟨rfl, rfl⟩
end Go.Proofs.Ytfooakbcgjebfaa
