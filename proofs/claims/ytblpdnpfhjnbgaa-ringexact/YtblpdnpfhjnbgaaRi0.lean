/- Cap, Len, place, At of a ring of int. -/
import Derived.Test.YtblpdnpfhjnbgaaRl
namespace Go.Proofs.Ytblpdnpfhjnbgaa
open Go.RowKit Go.Conc
section
variable {p d c cap first : Nat} {A buf : Array Value} {s r : Nat}
set_option maxHeartbeats 400000 in
theorem cap_i (w : World) (h : RS w 70 3 p d c cap first A buf s r) :
    Calls Try.prog 28 #[.pointer (some ⟨p, 0, none⟩)] w fun e w' => e = .returned (.int .i64 cap) ∧ w' = w := by
  obtain ⟨c0, c1, c2, f0, f1, f2⟩ := h.lay
  have hcap := run_cap_chan (P := Try.prog) 59 3 Try.underlying59 h.2.2
  go_enter Try.func28, Try.ntmps28
  go_wp2
  go_ret
  exact ⟨rfl, rfl⟩
set_option maxHeartbeats 400000 in
theorem len_i (w : World) (h : RS w 70 3 p d c cap first A buf s r) {len : Nat} (hs : buf.size + len = cap) (hb : cap ≤ 256) :
    Calls Try.prog 23 #[.pointer (some ⟨p, 0, none⟩)] w fun e w' => e = .returned (.int .i64 len) ∧ ∃ n, w' = w.drewN n := by
  obtain ⟨c0, c1, c2, f0, f1, f2⟩ := h.lay
  have hcap' := fun n => run_cap_chan (P := Try.prog) 59 3 Try.underlying59 (h.drewN n).2.2
  have hlen' := fun n => run_len_chan (P := Try.prog) 59 3 Try.underlying59 (h.drewN n).2.2
  have hh : Hid (buf.size + len = cap) := hs
  clear hs
  go_enter Try.func23, Try.ntmps23
  go_wp2_with fail
  go_quiet (fail)
  clear hcap' hlen'
  go_wp2_with fail
  go_ret
  have hs := hh.out
  exact ⟨ret_int (by unfold wrap64; omega), nq, rfl⟩
set_option maxHeartbeats 400000 in
theorem place_i (w : World) (h : RS w 70 3 p d c cap first A buf s r) (i : Nat) (h1 : first < cap) (hb : cap ≤ 256) (hi : i ≤ 256) {q : Nat} (hq : (first + i) % cap = q) :
    Calls Try.prog 32 #[.pointer (some ⟨p, 0, none⟩), .int .i64 i] w fun e w' => e = .returned (.int .i64 q) ∧ ∃ n, w' = w.drewN n := by
  obtain ⟨c0, c1, c2, f0, f1, f2⟩ := h.lay
  have HQ : Hid ((first + i) % cap = q) := hq
  clear hq
  go_enter Try.func32, Try.ntmps32
  go_wp2_with fail
  have hne : (cap : Int) ≠ 0 := by omega
  go_quiet (first | (go_at_call 28; exact Calls.quiet_of_same (cap_i _ (h.drewN _))))
  go_wp2_with fail
  go_ret
  have hq := HQ.out
  exact ⟨ret_int (by rw [← hq]; simp), nq, rfl⟩
set_option maxHeartbeats 400000 in
theorem at_in_i (w : World) (h : RS w 70 3 p d c cap first A buf s r) (i : Nat) (h1 : first < cap) (hb : cap ≤ 256) {len : Nat} (hs : buf.size + len = cap) (hi : i < len) {v : Value} (hv : A[(first + i) % cap]? = some v) :
    Calls Try.prog 26 #[.pointer (some ⟨p, 0, none⟩), .int .i64 i] w fun e w' => e = .returned (.tuple #[v, .bool true]) ∧ ∃ n, w' = w.drewN n := by
  obtain ⟨c0, c1, c2, f0, f1, f2⟩ := h.lay
  have hlt : (first + i) % cap < cap := Nat.mod_lt _ (by omega)
  have HL := len_i w h hs hb
  have hi' : i ≤ 256 := by omega
  generalize hq : (first + i) % cap = q at hv hlt
  have HP : Hid (∀ wr, RS wr 70 3 p d c cap first A buf s r → Calls Try.prog 32 #[.pointer (some ⟨p, 0, none⟩), .int .i64 i] wr fun e w' => e = .returned (.int .i64 q) ∧ ∃ k, w' = wr.drewN k) := fun wr hr => place_i _ hr i h1 hb hi' hq
  clear hs hq c0 c1 c2 f0 f1 f2
  go_enter Try.func26, Try.ntmps26
  go_wp2_with (go_at_call 23; refine HL.mono ?_; rintro e w' ⟨rfl, hn⟩)
  have hw : RS w' 70 3 p d c cap first A buf s r := by obtain ⟨n, rfl⟩ := hn; exact h.drewN n
  have HN : Hid (∃ n, w' = w.drewN n) := hn
  clear hn
  obtain ⟨c0, c1, c2, f0, f1, f2⟩ := hw.lay
  obtain ⟨ci, fi⟩ := hw.item q
  rw [hv] at ci
  go_quiet (first | (go_at_call 32; exact Calls.quiet_of (HP.out _ (hw.drewN _))))
  go_wp2_with fail
  go_ret2
  obtain ⟨n, rfl⟩ := HN.out
  exact ⟨rfl, n + nq, by rw [World.drewN_drewN]⟩
set_option maxHeartbeats 400000 in
theorem at_out_i (w : World) (h : RS w 70 3 p d c cap first A buf s r) (i : Int) (hb : cap ≤ 256) {len : Nat} (hs : buf.size + len = cap) (hi : i < 0 ∨ (len : Int) ≤ i) :
    Calls Try.prog 26 #[.pointer (some ⟨p, 0, none⟩), .int .i64 i] w fun e w' => e = .returned (.tuple #[.int .i64 0, .bool false]) ∧ ∃ n, w' = w.drewN n := by
  have HL := len_i w h hs hb
  clear hs h
  by_cases h0 : i < 0
  · go_enter Try.func26, Try.ntmps26
    go_wp2_with fail
    go_ret2
    exact ⟨rfl, 0, rfl⟩
  · have h1 : (len : Int) ≤ i := by omega
    clear hi
    go_enter Try.func26, Try.ntmps26
    go_wp2_with (go_at_call 23; refine HL.mono ?_; rintro e w' ⟨rfl, hn⟩)
    go_ret2
    exact ⟨rfl, hn⟩
end
end Go.Proofs.Ytblpdnpfhjnbgaa
