/- lay of a ring of string. -/
import Derived.Test.YtblpdnpfhjnbgaaRs0
import Derived.Deep.Cut
namespace Go.Proofs.Ytblpdnpfhjnbgaa
open Go.RowKit Go.Conc
section
variable {p d c cap first : Nat} {A buf : Array Value} {s r : Nat}
set_option maxHeartbeats 400000 in
theorem lay_full_s (w : World) (h : RS w 73 9 p d c cap first A #[] s r) (x : ByteArray) :
    Calls Try.prog 36 #[.pointer (some ⟨p, 0, none⟩), .string x] w fun e w' => e = .returned (.bool false) ∧ w' = w := by
  obtain ⟨c0, c1, c2, f0, f1, f2⟩ := h.lay
  go_enter Try.func36, Try.ntmps36
  go_upto_region 2 with fail
  refine wp_region_comm 0 _ rfl ?_
  simp only [List.take_zero, List.drop_succ_cons, List.drop_zero]
  refine wpStill_nil ⟨rfl, _, _, hands_default (c := c) (z := .int .i64 0) ?_ h.2.2, ?_⟩
  · simp [go_sem, execOp, rcase, Act.eval]
  still_step
  still_step
  refine wpStill_nil ?_
  go_wp2_with fail
  go_ret
  exact ⟨rfl, rfl⟩
set_option maxHeartbeats 400000 in
theorem lay_free_s (w : World) (h : RS w 73 9 p d c cap first A buf s r) (hpd : p ≠ d) (hpc : p ≠ c) (hdc : d ≠ c) (x : ByteArray) {q : Nat} (hq : buf[0]? = some (.int .i64 q)) (hlt : q < cap) {v : Value} (hv : A[q]? = some v) :
    Calls Try.prog 36 #[.pointer (some ⟨p, 0, none⟩), .string x] w fun e w' => e = .returned (.bool true) ∧ RS w' 73 9 p d c cap first (A.setIfInBounds q (.string x)) (buf.extract 1 buf.size) s (r + 1) ∧ Turn p d c w w' := by
  obtain ⟨c0, c1, c2, f0, f1, f2⟩ := h.lay
  have hsome : 0 < buf.size := (Array.getElem?_eq_some_iff.1 hq).1
  have hget : buf.getD 0 undef = .int .i64 q := by simp [hq]
  go_enter Try.func36, Try.ntmps36
  go_upto_region 2 with fail
  have hr' := h.setFree hpc hdc (buf.extract 1 buf.size) s (r + 1)
  have ht' := (Turn.refl p d c w).setChan cap (buf.extract 1 buf.size) false s (r + 1) false
  refine wp_region_comm 0 _ rfl ?_
  simp only [List.take_zero, List.drop_succ_cons, List.drop_zero]
  refine wpStill_nil ⟨rfl, _, _, hands_recv (c := c) (z := .int .i64 0) ?_ h.2.2 hsome, ?_⟩
  · simp [go_sem, execOp, rcase, Act.eval]
  rw [hget]
  generalize w.setChan c cap (buf.extract 1 buf.size) false s (r + 1) false = w1 at *
  clear c0 c1 c2 f0 f1 f2 hget
  obtain ⟨c0, c1, c2, f0, f1, f2⟩ := hr'.lay
  obtain ⟨ci, fi⟩ := hr'.item q
  rw [hv] at ci
  still_step
  still_step
  refine wpStill_nil ?_
  go_wp2_with fail
  go_ret

  exact ⟨rfl, hr'.setItem hpd hdc _ _, ht'.setCell (.inr (.inl rfl)) _ _⟩
end
end Go.Proofs.Ytblpdnpfhjnbgaa
