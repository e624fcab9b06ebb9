/- lay of a ring of samples. -/
import Derived.Test.YtfgljkeohoffiaaGb
namespace Go.Proofs.Ytfgljkeohoffiaa
open Go.RowKit Go.Conc
section
variable {p d c cap first : Nat} {A buf : Array Value} {s r : Nat}
set_option maxHeartbeats 1000000 in
theorem lay_full_q (w : World) (h : RS w Tq Erw p d c cap first A #[] s r) (x : Raw) :
    Calls Try.prog 68 #[.pointer (some ⟨p, 0, none⟩), rv x] w fun e w' => e = .returned (.bool false) ∧ Ext w w' := by
  have hr1 := h.ext ((Ext.refl w).alloc (.cells #[.int .i64 x.x, .int .i64 x.y, .int .i64 x.z, .int .i64 x.t] Erw))
  have hx1 : Ext w (w.alloc (.cells #[.int .i64 x.x, .int .i64 x.y, .int .i64 x.z, .int .i64 x.t] Erw)) := (Ext.refl w).alloc _
  obtain ⟨lp, ld, lc⟩ := h.lt
  have ne1 : p ≠ w.heap.size := by omega
  have ne2 : w.heap.size ≠ p := by omega
  obtain ⟨c0, c1, c2, f0, f1, f2⟩ := h.lay
  go_enter Try.func68, Try.ntmps68
  go_upto_region 2 with fail
  refine wp_region_comm 0 _ rfl ?_
  simp only [List.take_zero, List.drop_succ_cons, List.drop_zero]
  refine wpStill_nil ⟨rfl, _, _, hands_default (c := c) (z := .int .i64 0) ?_ hr1.2.2, ?_⟩
  · simp [go_sem, execOp, rcase, Act.eval]
  still_step
  still_step
  refine wpStill_nil ?_
  go_wp2_with fail
  go_ret
  exact ⟨rfl, hx1⟩
set_option maxHeartbeats 1000000 in
theorem lay_free_q (w : World) (h : RS w Tq Erw p d c cap first A buf s r) (hpd : p ≠ d) (hpc : p ≠ c) (hdc : d ≠ c) (x : Raw) {q : Nat} (hq : buf[0]? = some (.int .i64 q)) (hlt : q < cap) {y : Raw} (hy : A4 A (q * 4) y) :
    Calls Try.prog 68 #[.pointer (some ⟨p, 0, none⟩), rv x] w fun e w' => e = .returned (.bool true) ∧ RS w' Tq Erw p d c cap first (set4 A (q * 4) x) (buf.extract 1 buf.size) s (r + 1) ∧ Turn p d c w w' := by
  have hr1 := h.ext ((Ext.refl w).alloc (.cells #[.int .i64 x.x, .int .i64 x.y, .int .i64 x.z, .int .i64 x.t] Erw))
  have ht1 : Turn p d c w (w.alloc (.cells #[.int .i64 x.x, .int .i64 x.y, .int .i64 x.z, .int .i64 x.t] Erw)) := Turn.of_ext ((Ext.refl w).alloc _)
  obtain ⟨lp, ld, lc⟩ := h.lt
  have ne1 : p ≠ w.heap.size := by omega
  have ne2 : w.heap.size ≠ p := by omega
  have ne3 : d ≠ w.heap.size := by omega
  have ne4 : w.heap.size ≠ d := by omega
  have hcV : c ≠ w.heap.size := by omega
  obtain ⟨c0, c1, c2, f0, f1, f2⟩ := h.lay
  have hsome : 0 < buf.size := (Array.getElem?_eq_some_iff.1 hq).1
  have hget : buf.getD 0 undef = .int .i64 q := by simp [hq]
  go_enter Try.func68, Try.ntmps68
  go_upto_region 2 with fail
  have hr' := hr1.setFree hpc hdc (buf.extract 1 buf.size) s (r + 1)
  have ht' := ht1.setChan cap (buf.extract 1 buf.size) false s (r + 1) false
  have hb' : ((w.alloc (.cells #[.int .i64 x.x, .int .i64 x.y, .int .i64 x.z, .int .i64 x.t] Erw)).setChan c cap (buf.extract 1 buf.size) false s (r + 1) false).heap[w.heap.size]? = some (.cells #[.int .i64 x.x, .int .i64 x.y, .int .i64 x.z, .int .i64 x.t] Erw) := by
    rw [heap_setChan_far _ _ _ _ _ _ _ _ _ hcV]; exact heap_alloc_new w _
  refine wp_region_comm 0 _ rfl ?_
  simp only [List.take_zero, List.drop_succ_cons, List.drop_zero]
  refine wpStill_nil ⟨rfl, _, _, hands_recv (c := c) (z := .int .i64 0) ?_ hr1.2.2 hsome, ?_⟩
  · simp [go_sem, execOp, rcase, Act.eval]
  rw [hget]
  generalize (w.alloc (.cells #[.int .i64 x.x, .int .i64 x.y, .int .i64 x.z, .int .i64 x.t] Erw)).setChan c cap (buf.extract 1 buf.size) false s (r + 1) false = w1 at *
  clear c0 c1 c2 f0 f1 f2 hget hr1 ht1
  have b0 : w1.cell? ⟨w.heap.size, 0, none⟩ = some (.int .i64 x.x) := by simp [World.cell?, hb']
  have b1 : w1.cell? ⟨w.heap.size, 1, none⟩ = some (.int .i64 x.y) := by simp [World.cell?, hb']
  have b2 : w1.cell? ⟨w.heap.size, 2, none⟩ = some (.int .i64 x.z) := by simp [World.cell?, hb']
  have b3 : w1.cell? ⟨w.heap.size, 3, none⟩ = some (.int .i64 x.t) := by simp [World.cell?, hb']
  generalize w.heap.size = V at *
  clear hb'
  obtain ⟨c0, c1, c2, f0, f1, f2⟩ := hr'.lay
  obtain ⟨i0, i1, i2, i3⟩ := hr'.c4 hy
  obtain ⟨g0, g1, g2, g3⟩ := hr'.f4 (q * 4)
  still_step
  still_step
  refine wpStill_nil ?_
  go_wp2_with fail
  go_region
  go_wp2_with fail
  go_ret
  exact ⟨rfl, (hr'.setItem4 hpd hdc (q * 4) x).drew, (ht'.put4 (.inr (.inr (.inl rfl))) (q * 4) x).drew⟩
end
end Go.Proofs.Ytfgljkeohoffiaa
