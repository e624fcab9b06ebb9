/- At of a ring of pairs. -/
import Derived.Test.YtblpdnpfhjnbgaaRp0
import Derived.Test.YtblpdnpfhjnbgaaL5
import Derived.Deep.RegionHeld3
namespace Go.Proofs.Ytblpdnpfhjnbgaa
open Go.RowKit Go.Conc
/-- a pair -/
abbrev pr (n : Int) (s : ByteArray) : Value := .agg #[.int .i64 n, .string s]
abbrev Tp : TypeId := 61
abbrev Ep : TypeId := 30
section
variable {p d c cap first : Nat} {A buf : Array Value} {s r : Nat}
theorem drewN_ext {w : World} (n : Nat) : Ext w (w.drewN n) := ⟨rfl, rfl, rfl, Nat.le_refl _, fun _ _ => rfl⟩
set_option maxHeartbeats 2000000 in
theorem at_in_p (w : World) (h : RS w Tp Ep p d c cap first A buf s r) (i : Nat) (h1 : first < cap) (hb : cap ≤ 256) {len : Nat} (hs : buf.size + len = cap) (hi : i < len) {n : Int} {x : ByteArray} (hv : A[(first + i) % cap * 2]? = some (.int .i64 n)) (hv2 : A[(first + i) % cap * 2 + 1]? = some (.string x)) :
    Calls Try.prog 11 #[.pointer (some ⟨p, 0, none⟩), .int .i64 i] w fun e w' => e = .returned (.tuple #[pr n x, .bool true]) ∧ Ext w w' := by
  have hlt : (first + i) % cap < cap := Nat.mod_lt _ (by omega)
  have hi' : i ≤ 256 := by omega
  generalize hq : (first + i) % cap = q at hv hv2 hlt
  have HL : Hid (∀ wr, RS wr Tp Ep p d c cap first A buf s r → Calls Try.prog 15 #[.pointer (some ⟨p, 0, none⟩)] wr fun e w' => e = .returned (.int .i64 len) ∧ ∃ n, w' = wr.drewN n) := fun wr hr => len_p wr hr hs hb
  have HP : Hid (∀ wr, RS wr Tp Ep p d c cap first A buf s r → Calls Try.prog 29 #[.pointer (some ⟨p, 0, none⟩), .int .i64 i] wr fun e w' => e = .returned (.int .i64 q) ∧ ∃ k, w' = wr.drewN k) := fun wr hr => place_p _ hr i h1 hb hi' hq
  have hr1 := h.ext ((Ext.refl w).alloc (.cells #[.int .i64 0, .string ⟨#[]⟩] Ep))
  have hx1 : Ext w (w.alloc (.cells #[.int .i64 0, .string ⟨#[]⟩] Ep)) := (Ext.refl w).alloc _
  clear hs hq
  go_enter Try.func11, Try.ntmps11
  go_wp2_with (go_at_call 15; refine (HL.out _ hr1).mono ?_; rintro e w1 ⟨rfl, hn⟩)
  have hw1 : RS w1 Tp Ep p d c cap first A buf s r := by obtain ⟨m, rfl⟩ := hn; exact hr1.drewN m
  have hx2 : Ext w w1 := by obtain ⟨m, rfl⟩ := hn; exact hx1.trans (drewN_ext m)
  have hvar : w1.cell? ⟨w.heap.size, 0, none⟩ = some (.int .i64 0) ∧ w1.cell? ⟨w.heap.size, 1, none⟩ = some (.string ⟨#[]⟩) ∧ w1.frozen? ⟨w.heap.size, 0, none⟩ = false ∧ w1.frozen? ⟨w.heap.size, 1, none⟩ = false := by
    obtain ⟨m, rfl⟩ := hn; refine ⟨?_, ?_, ?_, ?_⟩ <;> simp [go_sem]
  have HE : Hid (∀ k, RS (w1.drewN k) Tp Ep p d c cap first A buf s r) := fun k => hw1.drewN k
  have HX : Hid (Ext w w1) := hx2
  obtain ⟨lp, ld, lc⟩ := h.lt
  have ne1 : p ≠ w.heap.size := by omega
  have ne2 : w.heap.size ≠ p := by omega
  have ne3 : d ≠ w.heap.size := by omega
  have ne4 : w.heap.size ≠ d := by omega
  clear hn hr1 hx1 hx2 h HL
  generalize hV : w.heap.size = V at *
  have HV : Hid (w.heap.size ≤ V) := Nat.le_of_eq hV
  clear hV
  obtain ⟨v0, v1, vf0, vf1⟩ := hvar
  obtain ⟨c0, c1, c2, f0, f1, f2⟩ := hw1.lay
  obtain ⟨i0, if0⟩ := hw1.item (q * 2)
  obtain ⟨i1, if1⟩ := hw1.item (q * 2 + 1)
  rw [hv] at i0
  rw [hv2] at i1
  clear hw1 hv hv2 c1 c2 f0 f1 f2 if0 if1
  go_region_held3 (fun w' => w'.cell? ⟨p, 0, none⟩ = some (.slice (some ⟨d, 0, none⟩) cap cap) ∧ w'.cell? ⟨d, q * 2, none⟩ = some (.int .i64 n) ∧ w'.cell? ⟨d, q * 2 + 1, none⟩ = some (.string x)) (first | (go_keep; done) | skip) (first | (go_at_call 29; refine (HP.out _ (HE.out 1)).mono ?_; rintro e w2 ⟨rfl, m2, rfl⟩))
  have hx9 : Ext w (((w1.drewN (1 + m2)).setCell ⟨V, 0, none⟩ (.int .i64 n)).setCell ⟨V, 1, none⟩ (.string x)) := Below.setCell (Below.setCell (HX.out.trans (drewN_ext (1 + m2))) (p := ⟨V, 0, none⟩) HV.out _) (p := ⟨V, 1, none⟩) HV.out _
  go_wp2_with fail
  exact bodyPost_ret (v := .tuple #[pr n x, .bool true]) (by simp [results, Try.results11, go_sem, v0, v1]) rfl ⟨rfl, hx9⟩
set_option maxHeartbeats 2000000 in
theorem at_out_p (w : World) (h : RS w Tp Ep p d c cap first A buf s r) (i : Int) (hb : cap ≤ 256) {len : Nat} (hs : buf.size + len = cap) (hi : i < 0 ∨ (len : Int) ≤ i) :
    Calls Try.prog 11 #[.pointer (some ⟨p, 0, none⟩), .int .i64 i] w fun e w' => e = .returned (.tuple #[pr 0 ⟨#[]⟩, .bool false]) ∧ Ext w w' := by
  have HL : Hid (∀ wr, RS wr Tp Ep p d c cap first A buf s r → Calls Try.prog 15 #[.pointer (some ⟨p, 0, none⟩)] wr fun e w' => e = .returned (.int .i64 len) ∧ Ext wr w' ∧ (∀ b o, w'.cell? ⟨b, o, none⟩ = wr.cell? ⟨b, o, none⟩) ∧ (∀ b o, w'.frozen? ⟨b, o, none⟩ = wr.frozen? ⟨b, o, none⟩) ∧ w'.heap.size = wr.heap.size) := fun wr hr => (len_p wr hr hs hb).mono fun e w' ⟨he, m, hm⟩ => ⟨he, by rw [hm]; exact drewN_ext m, fun _ _ => by rw [hm]; rfl, fun _ _ => by rw [hm]; rfl, by rw [hm]; rfl⟩
  have hr1 := h.ext ((Ext.refl w).alloc (.cells #[.int .i64 0, .string ⟨#[]⟩] Ep))
  have hx1 : Ext w (w.alloc (.cells #[.int .i64 0, .string ⟨#[]⟩] Ep)) := (Ext.refl w).alloc _
  clear hs h
  by_cases h0 : i < 0
  · go_enter Try.func11, Try.ntmps11
    go_wp2_with fail
    exact bodyPost_ret (v := .tuple #[pr 0 ⟨#[]⟩, .bool false]) (by simp [results, Try.results11, go_sem]) rfl ⟨rfl, hx1.alloc _⟩
  · have h1 : (len : Int) ≤ i := by omega
    clear hi
    go_enter Try.func11, Try.ntmps11
    go_wp2_with (go_at_call 15; refine (HL.out _ hr1).mono ?_; rintro e w1 ⟨rfl, hx, hc, hf, hz⟩)
    refine bodyPost_ret (v := .tuple #[pr 0 ⟨#[]⟩, .bool false]) (by simp [results, Try.results11, go_sem, hc, hz]) rfl ⟨rfl, ?_⟩
    exact Ext.alloc (w := (w1.setCell ⟨w.heap.size, 0, none⟩ (.int .i64 0)).setCell ⟨w.heap.size, 1, none⟩ (.string ⟨#[]⟩)) (Below.setCell (Below.setCell (hx1.trans hx) (p := ⟨w.heap.size, 0, none⟩) (Nat.le_refl _) _) (p := ⟨w.heap.size, 1, none⟩) (Nat.le_refl _) _) _
end
end Go.Proofs.Ytblpdnpfhjnbgaa
