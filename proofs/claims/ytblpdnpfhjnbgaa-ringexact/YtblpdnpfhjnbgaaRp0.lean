/- Cap, Len, place, At of a ring of gimbal/gimballaw5.pair. -/
import Derived.Test.YtblpdnpfhjnbgaaRl
namespace Go.Proofs.Ytblpdnpfhjnbgaa
open Go.RowKit Go.Conc
section
variable {p d c cap first : Nat} {A buf : Array Value} {s r : Nat}
set_option maxHeartbeats 400000 in
theorem cap_p (w : World) (h : RS w 61 30 p d c cap first A buf s r) :
    Calls Try.prog 16 #[.pointer (some ⟨p, 0, none⟩)] w fun e w' => e = .returned (.int .i64 cap) ∧ w' = w := by
  obtain ⟨c0, c1, c2, f0, f1, f2⟩ := h.lay
  have hcap := run_cap_chan (P := Try.prog) 59 3 Try.underlying59 h.2.2
  go_enter Try.func16, Try.ntmps16
  go_wp2
  go_ret
  exact ⟨rfl, rfl⟩
set_option maxHeartbeats 400000 in
theorem len_p (w : World) (h : RS w 61 30 p d c cap first A buf s r) {len : Nat} (hs : buf.size + len = cap) (hb : cap ≤ 256) :
    Calls Try.prog 15 #[.pointer (some ⟨p, 0, none⟩)] w fun e w' => e = .returned (.int .i64 len) ∧ ∃ n, w' = w.drewN n := by
  obtain ⟨c0, c1, c2, f0, f1, f2⟩ := h.lay
  have hcap' := fun n => run_cap_chan (P := Try.prog) 59 3 Try.underlying59 (h.drewN n).2.2
  have hlen' := fun n => run_len_chan (P := Try.prog) 59 3 Try.underlying59 (h.drewN n).2.2
  have hh : Hid (buf.size + len = cap) := hs
  clear hs
  go_enter Try.func15, Try.ntmps15
  go_wp2_with fail
  go_quiet (fail)
  clear hcap' hlen'
  go_wp2_with fail
  go_ret
  have hs := hh.out
  exact ⟨ret_int (by unfold wrap64; omega), nq, rfl⟩
set_option maxHeartbeats 400000 in
theorem place_p (w : World) (h : RS w 61 30 p d c cap first A buf s r) (i : Nat) (h1 : first < cap) (hb : cap ≤ 256) (hi : i ≤ 256) {q : Nat} (hq : (first + i) % cap = q) :
    Calls Try.prog 29 #[.pointer (some ⟨p, 0, none⟩), .int .i64 i] w fun e w' => e = .returned (.int .i64 q) ∧ ∃ n, w' = w.drewN n := by
  obtain ⟨c0, c1, c2, f0, f1, f2⟩ := h.lay
  have HQ : Hid ((first + i) % cap = q) := hq
  clear hq
  go_enter Try.func29, Try.ntmps29
  go_wp2_with fail
  have hne : (cap : Int) ≠ 0 := by omega
  go_quiet (first | (go_at_call 16; exact Calls.quiet_of_same (cap_p _ (h.drewN _))))
  go_wp2_with fail
  go_ret
  have hq := HQ.out
  exact ⟨ret_int (by rw [← hq]; simp), nq, rfl⟩
end
end Go.Proofs.Ytblpdnpfhjnbgaa
