/- Pop of a ring of string. -/
import Derived.Test.YtblpdnpfhjnbgaaRs1
namespace Go.Proofs.Ytblpdnpfhjnbgaa
open Go.RowKit Go.Conc
section
variable {p d c cap first : Nat} {A buf : Array Value} {s r : Nat}
set_option maxHeartbeats 400000 in
theorem pop_none_s (w : World) (h : RS w 73 9 p d c cap first A buf s r) (hb : cap ≤ 256) (hs : buf.size = cap) :
    Calls Try.prog 20 #[.pointer (some ⟨p, 0, none⟩)] w fun e w' => e = .returned (.tuple #[.string ⟨#[]⟩, .bool false]) ∧ ∃ n, w' = w.drewN n := by
  have HA := at_out_s w h 0 hb (len := 0) (by omega) (.inr (by omega))
  go_enter Try.func20, Try.ntmps20
  go_wp2_with (go_at_call 33; refine HA.mono ?_; rintro e w' ⟨rfl, hn⟩)
  go_ret2
  exact ⟨rfl, hn⟩
set_option maxHeartbeats 1000000 in
theorem pop_some_s (w : World) (h : RS w 73 9 p d c cap first A buf s r) (hpd : p ≠ d) (hpc : p ≠ c) (hdc : d ≠ c) (h1 : first < cap) (hb : cap ≤ 256) {len : Nat} (hs : buf.size + (len + 1) = cap) {v : Value} (hv : A[first]? = some v) :
    Calls Try.prog 20 #[.pointer (some ⟨p, 0, none⟩)] w fun e w' => e = .returned (.tuple #[v, .bool true]) ∧
      RS w' 73 9 p d c cap ((first + 1) % cap) (A.setIfInBounds first (.string ⟨#[]⟩)) (buf.push (.int .i64 first)) (s + 1) r ∧ Turn p d c w w' := by
  have HA := at_in_s w h 0 h1 hb hs (Nat.succ_pos _) (v := v) (by rw [Nat.add_zero, Nat.mod_eq_of_lt h1]; exact hv)
  have hroom : buf.size < cap := by omega
  clear hs
  go_enter Try.func20, Try.ntmps20
  go_wp2_with (go_at_call 33; refine HA.mono ?_; rintro e w' ⟨rfl, hn⟩)
  have hw : RS w' 73 9 p d c cap first A buf s r := by obtain ⟨n, rfl⟩ := hn; exact h.drewN n
  have ht : Turn p d c w w' := by obtain ⟨n, rfl⟩ := hn; exact ⟨⟨rfl, rfl, rfl, Nat.le_refl _, fun _ _ => rfl⟩, fun _ _ _ _ _ => rfl⟩
  clear hn HA
  obtain ⟨c0, c1, c2, f0, f1, f2⟩ := hw.lay
  obtain ⟨ci, fi⟩ := hw.item first
  rw [hv] at ci
  go_region
  go_upto_region 5 with fail
  have hw2 := (hw.setItem hpd hdc first (.string ⟨#[]⟩)).drew
  have ht2 := (ht.setCell (.inr (.inl rfl)) first (.string ⟨#[]⟩)).drew
  generalize (w'.setCell ⟨d, first, none⟩ (.string ⟨#[]⟩)).drew = w2 at *
  clear c0 c1 c2 f0 f1 f2 ci fi
  obtain ⟨c0, c1, c2, f0, f1, f2⟩ := hw2.drew.lay
  refine wp_region_still_last 8 (by kernel_rfl) (by kernel_rfl) rfl ?_
  simp only [List.take_succ_cons, List.take_zero]
  repeat still_step
  refine wpStill_nil (tail_last0 rfl rfl rfl (hands_send (c := c) (v := .int .i64 first) (z := .tuple #[]) ?_ hw2.drew.2.2 hroom) ?_)
  · simp [go_sem, execOp, scase, Act.eval]
  have hw3 := hw2.drew.setFree hpc hdc (buf.push (.int .i64 first)) (s + 1) r
  have ht3 := ht2.drew.setChan cap (buf.push (.int .i64 first)) false (s + 1) r false
  generalize w2.drew.setChan c cap (buf.push (.int .i64 first)) false (s + 1) r false = w3 at *
  clear c0 c1 c2 f0 f1 f2
  generalize hq : (first + 1) % cap = q
  have HP := place_s w3 hw3 1 h1 hb (by omega) hq
  have HQ : Hid ((first + 1) % cap = q) := hq
  have HT : Hid (∀ n, Turn p d c w ((w3.drewN n).setCell ⟨p, 1, none⟩ (.int .i64 q))) := fun n => Turn.setCell (w := w3.drewN n) ⟨⟨ht3.1.os, ht3.1.tape, ht3.1.output, ht3.1.size, ht3.1.block⟩, ht3.2⟩ (.inl rfl) 1 (.int .i64 q)
  have HR : Hid (∀ n, RS ((w3.drewN n).setCell ⟨p, 1, none⟩ (.int .i64 q)) 73 9 p d c cap q (A.setIfInBounds first (.string ⟨#[]⟩)) (buf.push (.int .i64 first)) (s + 1) r) := fun n => (hw3.drewN n).setFirst hpd hpc q
  obtain ⟨c0, c1, c2, f0, f1, f2⟩ := hw3.lay
  clear hq h hw hw2 hw3 ht ht2 ht3
  go_wp2_with (go_at_call 34; refine HP.mono ?_; rintro e w' ⟨rfl, n, rfl⟩)
  go_ret2
  exact ⟨rfl, by rw [HQ.out]; exact HR.out n, HT.out n⟩
end
end Go.Proofs.Ytblpdnpfhjnbgaa
