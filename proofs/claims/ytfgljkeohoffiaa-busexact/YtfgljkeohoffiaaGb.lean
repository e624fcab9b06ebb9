/- At of a ring of samples. -/
import Derived.Test.YtfgljkeohoffiaaGa
namespace Go.Proofs.Ytfgljkeohoffiaa
open Go.RowKit Go.Conc
/-- four things of a row -/
def A4 (A : Array Value) (o : Nat) (x : Raw) : Prop := A[o]? = some (.int .i64 x.x) ∧ A[o + 1]? = some (.int .i64 x.y) ∧ A[o + 2]? = some (.int .i64 x.z) ∧ A[o + 3]? = some (.int .i64 x.t)
def set4 (A : Array Value) (o : Nat) (x : Raw) : Array Value := (((A.setIfInBounds o (.int .i64 x.x)).setIfInBounds (o + 1) (.int .i64 x.y)).setIfInBounds (o + 2) (.int .i64 x.z)).setIfInBounds (o + 3) (.int .i64 x.t)
section
variable {p d c cap first : Nat} {A buf : Array Value} {s r : Nat}
theorem RS.c4 {w : World} {T E : TypeId} (h : RS w T E p d c cap first A buf s r) {o : Nat} {x : Raw} (ha : A4 A o x) : C4 w d o x := by
  obtain ⟨a0, a1, a2, a3⟩ := ha
  exact ⟨(h.item o).1.trans a0, (h.item (o + 1)).1.trans a1, (h.item (o + 2)).1.trans a2, (h.item (o + 3)).1.trans a3⟩
theorem RS.f4 {w : World} {T E : TypeId} (h : RS w T E p d c cap first A buf s r) (o : Nat) : w.frozen? ⟨d, o, none⟩ = false ∧ w.frozen? ⟨d, o + 1, none⟩ = false ∧ w.frozen? ⟨d, o + 2, none⟩ = false ∧ w.frozen? ⟨d, o + 3, none⟩ = false :=
  ⟨(h.item _).2, (h.item _).2, (h.item _).2, (h.item _).2⟩
theorem RS.setItem4 {w : World} {T E : TypeId} (h : RS w T E p d c cap first A buf s r) (hpd : p ≠ d) (hdc : d ≠ c) (o : Nat) (x : Raw) : RS (Go.Proofs.Ytfgljkeohoffiaa.put4 w d o x) T E p d c cap first (set4 A o x) buf s r :=
  (((h.setItem hpd hdc _ _).setItem hpd hdc _ _).setItem hpd hdc _ _).setItem hpd hdc _ _
set_option maxHeartbeats 2000000 in
theorem at_in_q (w : World) (h : RS w Tq Erw p d c cap first A buf s r) (i : Nat) (h1 : first < cap) (hb : cap ≤ 256) {len : Nat} (hs : buf.size + len = cap) (hi : i < len) {x : Raw} (hv : A4 A ((first + i) % cap * 4) x) :
    Calls Try.prog 70 #[.pointer (some ⟨p, 0, none⟩), .int .i64 i] w fun e w' => e = .returned (.tuple #[rv x, .bool true]) ∧ Ext w w' := by
  have hlt : (first + i) % cap < cap := Nat.mod_lt _ (by omega)
  have hi' : i ≤ 256 := by omega
  generalize hq : (first + i) % cap = q at hv hlt
  have HL : Hid (∀ wr, RS wr Tq Erw p d c cap first A buf s r → Calls Try.prog 47 #[.pointer (some ⟨p, 0, none⟩)] wr fun e w' => e = .returned (.int .i64 len) ∧ ∃ n, w' = wr.drewN n) := fun wr hr => len_q wr hr hs hb
  have HP : Hid (∀ wr, RS wr Tq Erw p d c cap first A buf s r → Calls Try.prog 71 #[.pointer (some ⟨p, 0, none⟩), .int .i64 i] wr fun e w' => e = .returned (.int .i64 q) ∧ ∃ k, w' = wr.drewN k) := fun wr hr => place_q _ hr i h1 hb hi' hq
  have hr1 := h.ext ((Ext.refl w).alloc (.cells #[.int .i64 0, .int .i64 0, .int .i64 0, .int .i64 0] Erw))
  have hx1 : Ext w (w.alloc (.cells #[.int .i64 0, .int .i64 0, .int .i64 0, .int .i64 0] Erw)) := (Ext.refl w).alloc _
  have hp1 : P4 (w.alloc (.cells #[.int .i64 0, .int .i64 0, .int .i64 0, .int .i64 0] Erw)) w.heap.size nought := p4_at (r := nought) rfl
  clear hs hq
  go_enter Try.func70, Try.ntmps70
  go_wp2_with (go_at_call 47; refine (HL.out _ hr1).mono ?_; rintro e w1 ⟨rfl, hn⟩)
  have hw1 : RS w1 Tq Erw p d c cap first A buf s r := by obtain ⟨m, rfl⟩ := hn; exact hr1.drewN m
  have hx2 : Ext w w1 := by obtain ⟨m, rfl⟩ := hn; exact hx1.trans (drewN_ext m)
  have hvar : P4 w1 w.heap.size nought := by obtain ⟨m, rfl⟩ := hn; exact hp1.ext (drewN_ext m)
  have HE : Hid (∀ k, RS (w1.drewN k) Tq Erw p d c cap first A buf s r) := fun k => hw1.drewN k
  have HX : Hid (Ext w w1) := hx2
  obtain ⟨lp, ld, lc⟩ := h.lt
  have ne1 : p ≠ w.heap.size := by omega
  have ne2 : w.heap.size ≠ p := by omega
  have ne3 : d ≠ w.heap.size := by omega
  have ne4 : w.heap.size ≠ d := by omega
  clear hn hr1 hx1 hx2 h HL hp1
  generalize hV : w.heap.size = V at *
  have HV : Hid (w.heap.size ≤ V) := Nat.le_of_eq hV
  clear hV
  have HVV : Hid (P4 w1 V nought) := hvar
  obtain ⟨⟨v0, v1, v2, v3⟩, vf0, vf1, vf2, vf3⟩ := hvar
  obtain ⟨c0, c1, c2, f0, f1, f2⟩ := hw1.lay
  obtain ⟨i0, i1, i2, i3⟩ := hw1.c4 hv
  clear hw1 hv c1 c2 f0 f1 f2
  go_region_held3 (fun w' => w'.cell? ⟨p, 0, none⟩ = some (.slice (some ⟨d, 0, none⟩) cap cap) ∧ w'.cell? ⟨d, q * 4, none⟩ = some (.int .i64 x.x) ∧ w'.cell? ⟨d, q * 4 + 1, none⟩ = some (.int .i64 x.y) ∧ w'.cell? ⟨d, q * 4 + 2, none⟩ = some (.int .i64 x.z) ∧ w'.cell? ⟨d, q * 4 + 3, none⟩ = some (.int .i64 x.t)) (first | (go_keep; done) | skip) (first | (go_at_call 71; refine (HP.out _ (HE.out 1)).mono ?_; rintro e w2 ⟨rfl, m2, rfl⟩))
  have hx9 : Ext w (put4 (w1.drewN (1 + m2)) V 0 x) := (HX.out.trans (drewN_ext (1 + m2))).put4 HV.out 0 x
  have hp9 := (HVV.out.ext (drewN_ext (1 + m2))).set x
  obtain ⟨⟨y0, y1, y2, y3⟩, _⟩ := hp9
  go_wp2_with fail
  exact bodyPost_ret (v := .tuple #[rv x, .bool true]) (by simp [results, Try.results70, go_sem, v0, v1, v2, v3]) rfl ⟨rfl, hx9⟩
set_option maxHeartbeats 2000000 in
theorem at_out_q (w : World) (h : RS w Tq Erw p d c cap first A buf s r) (i : Int) (hb : cap ≤ 256) {len : Nat} (hs : buf.size + len = cap) (hi : i < 0 ∨ (len : Int) ≤ i) :
    Calls Try.prog 70 #[.pointer (some ⟨p, 0, none⟩), .int .i64 i] w fun e w' => e = .returned (.tuple #[rv nought, .bool false]) ∧ Ext w w' := by
  have HL : Hid (∀ wr, RS wr Tq Erw p d c cap first A buf s r → Calls Try.prog 47 #[.pointer (some ⟨p, 0, none⟩)] wr fun e w' => e = .returned (.int .i64 len) ∧ Ext wr w' ∧ (∀ b o, w'.cell? ⟨b, o, none⟩ = wr.cell? ⟨b, o, none⟩) ∧ (∀ b o, w'.frozen? ⟨b, o, none⟩ = wr.frozen? ⟨b, o, none⟩) ∧ w'.heap.size = wr.heap.size) := fun wr hr => (len_q wr hr hs hb).mono fun e w' ⟨he, m, hm⟩ => ⟨he, by rw [hm]; exact drewN_ext m, fun _ _ => by rw [hm]; rfl, fun _ _ => by rw [hm]; rfl, by rw [hm]; rfl⟩
  have hr1 := h.ext ((Ext.refl w).alloc (.cells #[.int .i64 0, .int .i64 0, .int .i64 0, .int .i64 0] Erw))
  have hx1 : Ext w (w.alloc (.cells #[.int .i64 0, .int .i64 0, .int .i64 0, .int .i64 0] Erw)) := (Ext.refl w).alloc _
  clear hs h
  by_cases h0 : i < 0
  · go_enter Try.func70, Try.ntmps70
    go_wp2_with fail
    exact bodyPost_ret (v := .tuple #[rv nought, .bool false]) (by simp [results, Try.results70, go_sem, nought]) rfl ⟨rfl, hx1.alloc _⟩
  · have h1 : (len : Int) ≤ i := by omega
    clear hi
    go_enter Try.func70, Try.ntmps70
    go_wp2_with (go_at_call 47; refine (HL.out _ hr1).mono ?_; rintro e w1 ⟨rfl, hx, hc, hf, hz⟩)
    refine bodyPost_ret (v := .tuple #[rv nought, .bool false]) (by simp [results, Try.results70, go_sem, hc, hz, nought]) rfl ⟨rfl, ?_⟩
    exact Ext.alloc (w := put4 w1 w.heap.size 0 nought) ((hx1.trans hx).put4 (Nat.le_refl _) 0 nought) _
end
end Go.Proofs.Ytfgljkeohoffiaa
