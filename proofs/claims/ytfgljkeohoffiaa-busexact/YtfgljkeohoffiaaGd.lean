/- Pop of a ring of samples. -/
import Derived.Test.YtfgljkeohoffiaaGc
namespace Go.Proofs.Ytfgljkeohoffiaa
open Go.RowKit Go.Conc
section
variable {p d c cap first : Nat} {A buf : Array Value} {s r : Nat}
set_option maxHeartbeats 2000000 in
theorem pop_none_q (w : World) (h : RS w Tq Erw p d c cap first A buf s r) (hb : cap ≤ 256) (hs : buf.size = cap) :
    Calls Try.prog 62 #[.pointer (some ⟨p, 0, none⟩)] w fun e w' => e = .returned (.tuple #[rv nought, .bool false]) ∧ Ext w w' := by
  have hr1 := h.ext ((Ext.refl w).alloc (.cells #[.int .i64 0, .int .i64 0, .int .i64 0, .int .i64 0] Erw))
  have hx1 : Ext w (w.alloc (.cells #[.int .i64 0, .int .i64 0, .int .i64 0, .int .i64 0] Erw)) := (Ext.refl w).alloc _
  have hv : P4 (w.alloc (.cells #[.int .i64 0, .int .i64 0, .int .i64 0, .int .i64 0] Erw)) w.heap.size nought := p4_at (r := nought) rfl
  have HV : Hid (P4 (w.alloc (.cells #[.int .i64 0, .int .i64 0, .int .i64 0, .int .i64 0] Erw)) w.heap.size nought) := hv
  have HA := at_out_q _ hr1 0 hb (len := 0) (by omega) (.inr (by omega))
  clear h hs hr1 hv
  go_enter Try.func62, Try.ntmps62
  go_wp2_with (go_at_call 70; refine HA.mono ?_; rintro e w1 ⟨rfl, hx⟩; have hv1 := HV.out.ext hx; obtain ⟨⟨r0, r1, r2, r3⟩, g0, g1, g2, g3⟩ := id hv1; have hlt1 := hv1.lt; have n1 := Nat.ne_of_lt hlt1; have n2 := Nat.ne_of_gt hlt1)
  have hv2 := (hv1.set nought).alloc (.cells #[.int .i64 0, .int .i64 0, .int .i64 0, .int .i64 0] Erw)
  have hx2 : Ext w ((put4 w1 w.heap.size 0 nought).alloc (.cells #[.int .i64 0, .int .i64 0, .int .i64 0, .int .i64 0] Erw)) := ((hx1.trans hx).put4 (Nat.le_refl _) 0 nought).alloc _
  obtain ⟨⟨z0, z1, z2, z3⟩, _⟩ := hv2
  simp only [put4, nought, Nat.zero_add] at z0 z1 z2 z3
  exact bodyPost_ret (v := .tuple #[rv nought, .bool false]) (by simp [results, Try.results62, go_sem, z0, z1, z2, z3, nought]) rfl ⟨rfl, hx2⟩
set_option maxRecDepth 20000 in
set_option maxHeartbeats 2000000 in
theorem pop_some_q (w : World) (h : RS w Tq Erw p d c cap first A buf s r) (hpd : p ≠ d) (hpc : p ≠ c) (hdc : d ≠ c) (h1 : first < cap) (hb : cap ≤ 256) {len : Nat} (hs : buf.size + (len + 1) = cap) {x : Raw} (hv : A4 A (first * 4) x) :
    Calls Try.prog 62 #[.pointer (some ⟨p, 0, none⟩)] w fun e w' => e = .returned (.tuple #[rv x, .bool true]) ∧
      RS w' Tq Erw p d c cap ((first + 1) % cap) (set4 A (first * 4) nought) (buf.push (.int .i64 first)) (s + 1) r ∧ Turn p d c w w' := by
  have hr1 := h.ext ((Ext.refl w).alloc (.cells #[.int .i64 0, .int .i64 0, .int .i64 0, .int .i64 0] Erw))
  have hx1 : Ext w (w.alloc (.cells #[.int .i64 0, .int .i64 0, .int .i64 0, .int .i64 0] Erw)) := (Ext.refl w).alloc _
  have hp2 : Hid (P4 (w.alloc (.cells #[.int .i64 0, .int .i64 0, .int .i64 0, .int .i64 0] Erw)) w.heap.size nought) := p4_at (r := nought) rfl
  have HA := at_in_q _ hr1 0 h1 hb hs (Nat.succ_pos _) (x := x) (by rw [Nat.add_zero, Nat.mod_eq_of_lt h1]; exact hv)
  have hroom : buf.size < cap := by omega
  obtain ⟨lp, ld, lc⟩ := h.lt
  clear hs
  go_enter Try.func62, Try.ntmps62
  go_upto_region 4 with (go_at_call 70; refine HA.mono ?_; rintro e w1 ⟨rfl, hx⟩)
  have e4 : Ext w1 ((w1.alloc (.cells #[.int .i64 x.x, .int .i64 x.y, .int .i64 x.z, .int .i64 x.t] Erw)).alloc (.cells #[.int .i64 0, .int .i64 0, .int .i64 0, .int .i64 0] Erw)) := ((Ext.refl w1).alloc _).alloc _
  have hw4 := hr1.ext (hx.trans e4)
  have ht4 : Turn p d c w ((w1.alloc (.cells #[.int .i64 x.x, .int .i64 x.y, .int .i64 x.z, .int .i64 x.t] Erw)).alloc (.cells #[.int .i64 0, .int .i64 0, .int .i64 0, .int .i64 0] Erw)) := Turn.of_ext ((hx1.trans hx).trans e4)
  have hV4 := (hp2.out.ext hx).ext e4
  have hX4 : P4 ((w1.alloc (.cells #[.int .i64 x.x, .int .i64 x.y, .int .i64 x.z, .int .i64 x.t] Erw)).alloc (.cells #[.int .i64 0, .int .i64 0, .int .i64 0, .int .i64 0] Erw)) w1.heap.size x := (p4_at rfl).alloc _
  have hY4 : P4 ((w1.alloc (.cells #[.int .i64 x.x, .int .i64 x.y, .int .i64 x.z, .int .i64 x.t] Erw)).alloc (.cells #[.int .i64 0, .int .i64 0, .int .i64 0, .int .i64 0] Erw)) (w1.heap.size + 1) nought := p4_at (r := nought) (by simp)
  have hs1 : w.heap.size + 1 ≤ w1.heap.size := by have := hx.size; simpa using this
  have nV : w.heap.size ≠ p ∧ w.heap.size ≠ d ∧ w.heap.size ≠ c := by omega
  have nX : w1.heap.size ≠ p ∧ w1.heap.size ≠ d ∧ w1.heap.size ≠ c := by omega
  have nY : w1.heap.size + 1 ≠ p ∧ w1.heap.size + 1 ≠ d ∧ w1.heap.size + 1 ≠ c := by omega
  have HNV : Hid (w.heap.size ≠ p ∧ w.heap.size ≠ d ∧ w.heap.size ≠ c) := nV
  have HNX : Hid (w1.heap.size ≠ p ∧ w1.heap.size ≠ d ∧ w1.heap.size ≠ c) := nX
  generalize ((w1.alloc (.cells #[.int .i64 x.x, .int .i64 x.y, .int .i64 x.z, .int .i64 x.t] Erw)).alloc (.cells #[.int .i64 0, .int .i64 0, .int .i64 0, .int .i64 0] Erw)) = W4 at *
  generalize w1.heap.size + 1 = Y at *
  generalize w1.heap.size = X at *
  generalize hV : w.heap.size = V at *
  have HV : Hid (w.heap.size = V) := hV
  clear hV HA hx hx1 hp2 hr1 e4 h hs1 lp ld lc
  have HV4 : Hid (P4 W4 V nought) := hV4
  have HX4 : Hid (P4 W4 X x) := hX4
  obtain ⟨⟨y0, y1, y2, y3⟩, yf0, yf1, yf2, yf3⟩ := hY4
  obtain ⟨c0, c1, c2, f0, f1, f2⟩ := hw4.lay
  obtain ⟨i0, i1, i2, i3⟩ := hw4.c4 hv
  obtain ⟨g0, g1, g2, g3⟩ := hw4.f4 (first * 4)
  clear hV4 hX4 nV nX
  go_region
  go_upto_region 5 with fail
  have hw5 : RS ((((W4.setCell ⟨d, first * 4, none⟩ (.int .i64 nought.x)).setCell ⟨d, first * 4 + 1, none⟩ (.int .i64 nought.y)).setCell ⟨d, first * 4 + 2, none⟩ (.int .i64 nought.z)).setCell ⟨d, first * 4 + 3, none⟩ (.int .i64 nought.t)).drew Tq Erw p d c cap first (set4 A (first * 4) nought) buf s r := (hw4.setItem4 hpd hdc (first * 4) nought).drew
  have t5 : Turn p d c W4 ((((W4.setCell ⟨d, first * 4, none⟩ (.int .i64 nought.x)).setCell ⟨d, first * 4 + 1, none⟩ (.int .i64 nought.y)).setCell ⟨d, first * 4 + 2, none⟩ (.int .i64 nought.z)).setCell ⟨d, first * 4 + 3, none⟩ (.int .i64 nought.t)).drew := ((Turn.refl p d c W4).put4 (.inr (.inr (.inl rfl))) (first * 4) nought).drew
  generalize ((((W4.setCell ⟨d, first * 4, none⟩ (.int .i64 nought.x)).setCell ⟨d, first * 4 + 1, none⟩ (.int .i64 nought.y)).setCell ⟨d, first * 4 + 2, none⟩ (.int .i64 nought.z)).setCell ⟨d, first * 4 + 3, none⟩ (.int .i64 nought.t)).drew = w2 at *
  clear c0 c1 c2 f0 f1 f2 i0 i1 i2 i3 g0 g1 g2 g3 y0 y1 y2 y3 yf0 yf1 yf2 yf3
  obtain ⟨c0, c1, c2, f0, f1, f2⟩ := hw5.drew.lay
  refine wp_region_still_last 8 (by kernel_rfl) (by kernel_rfl) rfl ?_
  simp only [List.take_succ_cons, List.take_zero]
  iterate 8 still_step
  refine wpStill_nil (tail_last0 rfl rfl rfl (hands_send (c := c) (v := .int .i64 first) (z := .tuple #[]) ?_ hw5.drew.2.2 hroom) ?_)
  · simp [go_sem, execOp, scase, Act.eval]
  have hw3 := hw5.drew.setFree hpc hdc (buf.push (.int .i64 first)) (s + 1) r
  have t3 := t5.drew.setChan cap (buf.push (.int .i64 first)) false (s + 1) r false
  generalize w2.drew.setChan c cap (buf.push (.int .i64 first)) false (s + 1) r false = w3 at *
  clear c0 c1 c2 f0 f1 f2
  generalize hq : (first + 1) % cap = q
  have HP := place_q w3 hw3 1 h1 hb (by omega) hq
  have HQ : Hid ((first + 1) % cap = q) := hq
  have HT : Hid (∀ m, Turn p d c W4 ((w3.drewN m).setCell ⟨p, 1, none⟩ (.int .i64 q))) := fun m => Turn.setCell (w := w3.drewN m) (t3.trans (drewN_turn m)) (.inl rfl) 1 (.int .i64 q)
  have HR : Hid (∀ m, RS ((w3.drewN m).setCell ⟨p, 1, none⟩ (.int .i64 q)) Tq Erw p d c cap q (set4 A (first * 4) nought) (buf.push (.int .i64 first)) (s + 1) r) := fun m => (hw3.drewN m).setFirst hpd hpc q
  obtain ⟨c0, c1, c2, f0, f1, f2⟩ := hw3.lay
  have HT4 : Hid (Turn p d c w W4) := ht4
  clear hq hw4 hw5 hw3 t5 t3 ht4
  go_upto_region 7 with (go_at_call 71; refine HP.mono ?_; rintro e w' ⟨rfl, m, rfl⟩)
  have hr7 := HR.out m
  have t7 := HT.out m
  generalize (w3.drewN m).setCell ⟨p, 1, none⟩ (.int .i64 q) = w7 at *
  obtain ⟨⟨x0, x1, x2, x3⟩, _⟩ := HX4.out.turn t7 HNX.out
  have hV7 := HV4.out.turn t7 HNV.out
  obtain ⟨⟨z0, z1, z2, z3⟩, zf0, zf1, zf2, zf3⟩ := id hV7
  go_wp2_with fail
  refine bodyPost_ret (v := .tuple #[rv x, .bool true]) (by simp [results, Try.results62, go_sem, z0, z1, z2, z3]) rfl ⟨rfl, ?_, ?_⟩
  · rw [HQ.out]; exact hr7.put4 HNV.out 0 x
  · exact (HT4.out.trans t7).put4 (.inl (Nat.le_of_eq HV.out)) 0 x
end
end Go.Proofs.Ytfgljkeohoffiaa
