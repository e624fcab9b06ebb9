/- lay of a ring of pairs. -/
import Derived.Test.YtblpdnpfhjnbgaaRp1
import Derived.Deep.Cut
namespace Go.Proofs.Ytblpdnpfhjnbgaa
open Go.RowKit Go.Conc
section
variable {p d c cap first : Nat} {A buf : Array Value} {s r : Nat}
set_option maxHeartbeats 1000000 in
theorem lay_full_p (w : World) (h : RS w Tp Ep p d c cap first A #[] s r) (n : Int) (x : ByteArray) :
    Calls Try.prog 31 #[.pointer (some ⟨p, 0, none⟩), pr n x] w fun e w' => e = .returned (.bool false) ∧ Ext w w' := by
  have hr1 := h.ext ((Ext.refl w).alloc (.cells #[.int .i64 n, .string x] Ep))
  have hx1 : Ext w (w.alloc (.cells #[.int .i64 n, .string x] Ep)) := (Ext.refl w).alloc _
  obtain ⟨lp, ld, lc⟩ := h.lt
  have ne1 : p ≠ w.heap.size := by omega
  have ne2 : w.heap.size ≠ p := by omega
  obtain ⟨c0, c1, c2, f0, f1, f2⟩ := h.lay
  go_enter Try.func31, Try.ntmps31
  go_upto_region 2 with fail
  refine wp_region_comm 0 _ rfl ?_
  simp only [List.take_zero, List.drop_succ_cons, List.drop_zero]
  refine wpStill_nil ⟨rfl, _, _, hands_default (c := c) (z := .int .i64 0) ?_ hr1.2.2, ?_⟩
  · simp [go_sem, execOp, rcase, Act.eval]
  still_step
  still_step
  refine wpStill_nil ?_
  go_wp2_with fail
  go_ret
  exact ⟨rfl, hx1⟩
set_option maxHeartbeats 1000000 in
theorem lay_free_p (w : World) (h : RS w Tp Ep p d c cap first A buf s r) (hpd : p ≠ d) (hpc : p ≠ c) (hdc : d ≠ c) (n : Int) (x : ByteArray) {q : Nat} (hq : buf[0]? = some (.int .i64 q)) (hlt : q < cap) {v1 v2 : Value} (hv1 : A[q * 2]? = some v1) (hv2 : A[q * 2 + 1]? = some v2) :
    Calls Try.prog 31 #[.pointer (some ⟨p, 0, none⟩), pr n x] w fun e w' => e = .returned (.bool true) ∧ RS w' Tp Ep p d c cap first ((A.setIfInBounds (q * 2) (.int .i64 n)).setIfInBounds (q * 2 + 1) (.string x)) (buf.extract 1 buf.size) s (r + 1) ∧ Turn p d c w w' := by
  have hr1 := h.ext ((Ext.refl w).alloc (.cells #[.int .i64 n, .string x] Ep))
  have ht1 : Turn p d c w (w.alloc (.cells #[.int .i64 n, .string x] Ep)) := Turn.of_ext ((Ext.refl w).alloc _)
  obtain ⟨lp, ld, lc⟩ := h.lt
  have ne1 : p ≠ w.heap.size := by omega
  have ne2 : w.heap.size ≠ p := by omega
  have ne3 : d ≠ w.heap.size := by omega
  have ne4 : w.heap.size ≠ d := by omega
  have hcV : c ≠ w.heap.size := by omega
  obtain ⟨c0, c1, c2, f0, f1, f2⟩ := h.lay
  have hsome : 0 < buf.size := (Array.getElem?_eq_some_iff.1 hq).1
  have hget : buf.getD 0 undef = .int .i64 q := by simp [hq]
  go_enter Try.func31, Try.ntmps31
  go_upto_region 2 with fail
  have hr' := hr1.setFree hpc hdc (buf.extract 1 buf.size) s (r + 1)
  have ht' := ht1.setChan cap (buf.extract 1 buf.size) false s (r + 1) false
  have hb' : ((w.alloc (.cells #[.int .i64 n, .string x] Ep)).setChan c cap (buf.extract 1 buf.size) false s (r + 1) false).heap[w.heap.size]? = some (.cells #[.int .i64 n, .string x] Ep) := by
    rw [heap_setChan_far _ _ _ _ _ _ _ _ _ hcV]; exact heap_alloc_new w _
  refine wp_region_comm 0 _ rfl ?_
  simp only [List.take_zero, List.drop_succ_cons, List.drop_zero]
  refine wpStill_nil ⟨rfl, _, _, hands_recv (c := c) (z := .int .i64 0) ?_ hr1.2.2 hsome, ?_⟩
  · simp [go_sem, execOp, rcase, Act.eval]
  rw [hget]
  generalize (w.alloc (.cells #[.int .i64 n, .string x] Ep)).setChan c cap (buf.extract 1 buf.size) false s (r + 1) false = w1 at *
  clear c0 c1 c2 f0 f1 f2 hget hr1 ht1
  have b0 : w1.cell? ⟨w.heap.size, 0, none⟩ = some (.int .i64 n) := by simp [World.cell?, hb']
  have b1 : w1.cell? ⟨w.heap.size, 1, none⟩ = some (.string x) := by simp [World.cell?, hb']
  generalize w.heap.size = V at *
  clear hb'
  obtain ⟨c0, c1, c2, f0, f1, f2⟩ := hr'.lay
  obtain ⟨ci, fi⟩ := hr'.item (q * 2)
  obtain ⟨cj, fj⟩ := hr'.item (q * 2 + 1)
  rw [hv1] at ci
  rw [hv2] at cj
  still_step
  still_step
  refine wpStill_nil ?_
  go_wp2_with fail
  go_region
  go_wp2_with fail
  go_ret
  exact ⟨rfl, ((hr'.setItem hpd hdc _ _).setItem hpd hdc _ _).drew, ((ht'.setCell (.inr (.inl rfl)) _ _).setCell (.inr (.inl rfl)) _ _).drew⟩
end
end Go.Proofs.Ytblpdnpfhjnbgaa
