/- Pop of a ring of pairs. -/
import Derived.Test.YtblpdnpfhjnbgaaRpv
namespace Go.Proofs.Ytblpdnpfhjnbgaa
open Go.RowKit Go.Conc
section
variable {p d c cap first : Nat} {A buf : Array Value} {s r : Nat}
set_option maxHeartbeats 2000000 in
theorem pop_none_p (w : World) (h : RS w Tp Ep p d c cap first A buf s r) (hb : cap ≤ 256) (hs : buf.size = cap) :
    Calls Try.prog 10 #[.pointer (some ⟨p, 0, none⟩)] w fun e w' => e = .returned (.tuple #[pr 0 ⟨#[]⟩, .bool false]) ∧ Ext w w' := by
  have hr1 := h.ext ((Ext.refl w).alloc (.cells #[.int .i64 0, .string ⟨#[]⟩] Ep))
  have hx1 : Ext w (w.alloc (.cells #[.int .i64 0, .string ⟨#[]⟩] Ep)) := (Ext.refl w).alloc _
  have hv : P2 (w.alloc (.cells #[.int .i64 0, .string ⟨#[]⟩] Ep)) w.heap.size 0 ⟨#[]⟩ := p2_at rfl
  have HV : Hid (P2 (w.alloc (.cells #[.int .i64 0, .string ⟨#[]⟩] Ep)) w.heap.size 0 ⟨#[]⟩) := hv
  have HA := at_out_p _ hr1 0 hb (len := 0) (by omega) (.inr (by omega))
  clear h hs hr1 hv
  go_enter Try.func10, Try.ntmps10
  go_wp2_with (go_at_call 11; refine HA.mono ?_; rintro e w1 ⟨rfl, hx⟩; have hv1 := HV.out.ext hx; obtain ⟨r0, r1, g0, g1⟩ := id hv1; have hlt1 := hv1.lt; have n1 := Nat.ne_of_lt hlt1; have n2 := Nat.ne_of_gt hlt1)
  have hv2 := (hv1.set (m := 0) (y := ⟨#[]⟩)).alloc (.cells #[.int .i64 0, .string ⟨#[]⟩] Ep)
  have hx2 : Ext w (((w1.setCell ⟨w.heap.size, 0, none⟩ (.int .i64 0)).setCell ⟨w.heap.size, 1, none⟩ (.string ⟨#[]⟩)).alloc (.cells #[.int .i64 0, .string ⟨#[]⟩] Ep)) := ((hx1.trans hx).set2 (Nat.le_refl _) _ _).alloc _
  exact bodyPost_ret (v := .tuple #[pr 0 ⟨#[]⟩, .bool false]) (by simp [results, Try.results10, go_sem, hv2.1, hv2.2.1]) rfl ⟨rfl, hx2⟩
set_option maxHeartbeats 2000000 in
theorem pop_some_p (w : World) (h : RS w Tp Ep p d c cap first A buf s r) (hpd : p ≠ d) (hpc : p ≠ c) (hdc : d ≠ c) (h1 : first < cap) (hb : cap ≤ 256) {len : Nat} (hs : buf.size + (len + 1) = cap) {n : Int} {x : ByteArray} (hv : A[first * 2]? = some (.int .i64 n)) (hv2 : A[first * 2 + 1]? = some (.string x)) :
    Calls Try.prog 10 #[.pointer (some ⟨p, 0, none⟩)] w fun e w' => e = .returned (.tuple #[pr n x, .bool true]) ∧
      RS w' Tp Ep p d c cap ((first + 1) % cap) ((A.setIfInBounds (first * 2) (.int .i64 0)).setIfInBounds (first * 2 + 1) (.string ⟨#[]⟩)) (buf.push (.int .i64 first)) (s + 1) r ∧ Turn p d c w w' := by
  have hr1 := h.ext ((Ext.refl w).alloc (.cells #[.int .i64 0, .string ⟨#[]⟩] Ep))
  have hx1 : Ext w (w.alloc (.cells #[.int .i64 0, .string ⟨#[]⟩] Ep)) := (Ext.refl w).alloc _
  have hp2 : Hid (P2 (w.alloc (.cells #[.int .i64 0, .string ⟨#[]⟩] Ep)) w.heap.size 0 ⟨#[]⟩) := p2_at rfl
  have HA := at_in_p _ hr1 0 h1 hb hs (Nat.succ_pos _) (n := n) (x := x) (by rw [Nat.add_zero, Nat.mod_eq_of_lt h1]; exact hv) (by rw [show first + 0 = first from rfl, Nat.mod_eq_of_lt h1]; exact hv2)
  have hroom : buf.size < cap := by omega
  obtain ⟨lp, ld, lc⟩ := h.lt
  clear hs
  go_enter Try.func10, Try.ntmps10
  go_upto_region 4 with (go_at_call 11; refine HA.mono ?_; rintro e w1 ⟨rfl, hx⟩)
  have e4 : Ext w1 ((w1.alloc (.cells #[.int .i64 n, .string x] Ep)).alloc (.cells #[.int .i64 0, .string ⟨#[]⟩] Ep)) := ((Ext.refl w1).alloc _).alloc _
  have hw4 := hr1.ext (hx.trans e4)
  have ht4 : Turn p d c w ((w1.alloc (.cells #[.int .i64 n, .string x] Ep)).alloc (.cells #[.int .i64 0, .string ⟨#[]⟩] Ep)) := Turn.of_ext ((hx1.trans hx).trans e4)
  have hV4 := (hp2.out.ext hx).ext e4
  have hX4 : P2 ((w1.alloc (.cells #[.int .i64 n, .string x] Ep)).alloc (.cells #[.int .i64 0, .string ⟨#[]⟩] Ep)) w1.heap.size n x := (p2_at rfl).alloc _
  have hY4 : P2 ((w1.alloc (.cells #[.int .i64 n, .string x] Ep)).alloc (.cells #[.int .i64 0, .string ⟨#[]⟩] Ep)) (w1.heap.size + 1) 0 ⟨#[]⟩ := p2_at (by simp)
  have hs1 : w.heap.size + 1 ≤ w1.heap.size := by have := hx.size; simpa using this
  have nV : w.heap.size ≠ p ∧ w.heap.size ≠ d ∧ w.heap.size ≠ c := by omega
  have nX : w1.heap.size ≠ p ∧ w1.heap.size ≠ d ∧ w1.heap.size ≠ c := by omega
  have nY : w1.heap.size + 1 ≠ p ∧ w1.heap.size + 1 ≠ d ∧ w1.heap.size + 1 ≠ c := by omega
  have HNV : Hid (w.heap.size ≠ p ∧ w.heap.size ≠ d ∧ w.heap.size ≠ c) := nV
  have HNX : Hid (w1.heap.size ≠ p ∧ w1.heap.size ≠ d ∧ w1.heap.size ≠ c) := nX
  have HVX : Hid (w.heap.size ≤ w.heap.size ∧ w.heap.size ≠ w1.heap.size) := by show _ ∧ _; omega
  generalize ((w1.alloc (.cells #[.int .i64 n, .string x] Ep)).alloc (.cells #[.int .i64 0, .string ⟨#[]⟩] Ep)) = W4 at *
  generalize w1.heap.size + 1 = Y at *
  generalize w1.heap.size = X at *
  generalize hV : w.heap.size = V at *
  have HV : Hid (w.heap.size = V) := hV
  clear hV HA hx hx1 hp2 hr1 e4 h hs1 lp ld lc
  have HV4 : Hid (P2 W4 V 0 ⟨#[]⟩) := hV4
  have HX4 : Hid (P2 W4 X n x) := hX4
  obtain ⟨y0, y1, yf0, yf1⟩ := hY4
  obtain ⟨c0, c1, c2, f0, f1, f2⟩ := hw4.lay
  obtain ⟨ci, fi⟩ := hw4.item (first * 2)
  obtain ⟨cj, fj⟩ := hw4.item (first * 2 + 1)
  rw [hv] at ci
  rw [hv2] at cj
  clear hV4 hX4 nV nX
  go_region
  go_upto_region 5 with fail
  have hw5 := ((hw4.setItem hpd hdc (first * 2) (.int .i64 0)).setItem hpd hdc (first * 2 + 1) (.string ⟨#[]⟩)).drew
  have t5 : Turn p d c W4 ((W4.setCell ⟨d, first * 2, none⟩ (.int .i64 0)).setCell ⟨d, first * 2 + 1, none⟩ (.string ⟨#[]⟩)).drew := (((Turn.refl p d c W4).setCell (.inr (.inl rfl)) _ _).setCell (.inr (.inl rfl)) _ _).drew
  generalize ((W4.setCell ⟨d, first * 2, none⟩ (.int .i64 0)).setCell ⟨d, first * 2 + 1, none⟩ (.string ⟨#[]⟩)).drew = w2 at *
  clear c0 c1 c2 f0 f1 f2 ci cj fi fj y0 y1 yf0 yf1
  obtain ⟨c0, c1, c2, f0, f1, f2⟩ := hw5.drew.lay
  refine wp_region_still_last 8 (by kernel_rfl) (by kernel_rfl) rfl ?_
  simp only [List.take_succ_cons, List.take_zero]
  repeat still_step
  refine wpStill_nil (tail_last0 rfl rfl rfl (hands_send (c := c) (v := .int .i64 first) (z := .tuple #[]) ?_ hw5.drew.2.2 hroom) ?_)
  · simp [go_sem, execOp, scase, Act.eval]
  have hw3 := hw5.drew.setFree hpc hdc (buf.push (.int .i64 first)) (s + 1) r
  have t3 := t5.drew.setChan cap (buf.push (.int .i64 first)) false (s + 1) r false
  generalize w2.drew.setChan c cap (buf.push (.int .i64 first)) false (s + 1) r false = w3 at *
  clear c0 c1 c2 f0 f1 f2
  generalize hq : (first + 1) % cap = q
  have HP := place_p w3 hw3 1 h1 hb (by omega) hq
  have HQ : Hid ((first + 1) % cap = q) := hq
  have HT : Hid (∀ m, Turn p d c W4 ((w3.drewN m).setCell ⟨p, 1, none⟩ (.int .i64 q))) := fun m => Turn.setCell (w := w3.drewN m) (t3.trans (drewN_turn m)) (.inl rfl) 1 (.int .i64 q)
  have HR : Hid (∀ m, RS ((w3.drewN m).setCell ⟨p, 1, none⟩ (.int .i64 q)) Tp Ep p d c cap q ((A.setIfInBounds (first * 2) (.int .i64 0)).setIfInBounds (first * 2 + 1) (.string ⟨#[]⟩)) (buf.push (.int .i64 first)) (s + 1) r) := fun m => (hw3.drewN m).setFirst hpd hpc q
  obtain ⟨c0, c1, c2, f0, f1, f2⟩ := hw3.lay
  have HT4 : Hid (Turn p d c w W4) := ht4
  clear hq hw4 hw5 hw3 t5 t3 ht4
  go_upto_region 7 with (go_at_call 29; refine HP.mono ?_; rintro e w' ⟨rfl, m, rfl⟩)
  have hr7 := HR.out m
  have t7 := HT.out m
  generalize (w3.drewN m).setCell ⟨p, 1, none⟩ (.int .i64 q) = w7 at *
  obtain ⟨x0, x1, xf0, xf1⟩ := HX4.out.turn t7 HNX.out
  have hV7 := HV4.out.turn t7 HNV.out
  obtain ⟨z0, z1, zf0, zf1⟩ := id hV7
  have hV8 := hV7.set (m := n) (y := x)
  go_wp2_with fail
  refine bodyPost_ret (v := .tuple #[pr n x, .bool true]) (by simp [results, Try.results10, go_sem, hV8.1, hV8.2.1]) rfl ⟨rfl, ?_, ?_⟩
  · rw [HQ.out]; exact hr7.set2 HNV.out _ _
  · exact (HT4.out.trans t7).set2 (Nat.le_of_eq HV.out) _ _
end
end Go.Proofs.Ytblpdnpfhjnbgaa
