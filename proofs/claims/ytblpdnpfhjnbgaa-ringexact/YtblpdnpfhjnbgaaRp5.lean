/- Push of a ring of pairs. -/
import Derived.Test.YtblpdnpfhjnbgaaRp4
namespace Go.Proofs.Ytblpdnpfhjnbgaa
open Go.RowKit Go.Conc
section
variable {p d c cap : Nat} {l : List (Int × ByteArray)}
theorem Rp.set2 {w : World} (h : Rp w p d c cap l) {b : Nat} (hb : b ≠ p ∧ b ≠ d ∧ b ≠ c) (u v : Value) : Rp ((w.setCell ⟨b, 0, none⟩ u).setCell ⟨b, 1, none⟩ v) p d c cap l := by
  obtain ⟨first, A, A', buf, s, r, h, hf, hh, hd⟩ := h
  exact ⟨first, A, A', buf, s, r, h.set2 hb u v, hf, hh, hd⟩
/-- three new variables: x, and two noughts -/
theorem three_vars (w : World) (n : Int) (x : ByteArray) :
    P2 (((w.alloc (.cells #[.int .i64 n, .string x] Ep)).alloc (.cells #[.int .i64 0, .string ⟨#[]⟩] Ep)).alloc (.cells #[.int .i64 0, .string ⟨#[]⟩] Ep)) w.heap.size n x ∧
    P2 (((w.alloc (.cells #[.int .i64 n, .string x] Ep)).alloc (.cells #[.int .i64 0, .string ⟨#[]⟩] Ep)).alloc (.cells #[.int .i64 0, .string ⟨#[]⟩] Ep)) (w.heap.size + 1) 0 ⟨#[]⟩ ∧
    P2 (((w.alloc (.cells #[.int .i64 n, .string x] Ep)).alloc (.cells #[.int .i64 0, .string ⟨#[]⟩] Ep)).alloc (.cells #[.int .i64 0, .string ⟨#[]⟩] Ep)) (w.heap.size + 1 + 1) 0 ⟨#[]⟩ ∧
    Ext w (((w.alloc (.cells #[.int .i64 n, .string x] Ep)).alloc (.cells #[.int .i64 0, .string ⟨#[]⟩] Ep)).alloc (.cells #[.int .i64 0, .string ⟨#[]⟩] Ep)) :=
  ⟨((p2_at rfl).alloc _).alloc _, (p2_at (by simp)).alloc _, p2_at (by simp), (((Ext.refl w).alloc _).alloc _).alloc _⟩
set_option maxHeartbeats 2000000 in
theorem push_free_p (w : World) (h : Rp w p d c cap l) (n : Int) (x : ByteArray) (hl : l.length < cap) :
    Calls Try.prog 14 #[.pointer (some ⟨p, 0, none⟩), pr n x] w fun e w' => e = .returned (.tuple #[pr 0 ⟨#[]⟩, .bool false]) ∧ Rp w' p d c cap (l ++ [(n, x)]) ∧ Turn p d c w w' := by
  obtain ⟨hX, hV, hZ, hx⟩ := three_vars w n x
  obtain ⟨lp, ld, lc⟩ := h.lt
  have HL := lay_l_p _ (h.ext hx) n x
  rw [decide_eq_true hl, if_pos hl] at HL
  have nV : Hid (w.heap.size + 1 ≠ p ∧ w.heap.size + 1 ≠ d ∧ w.heap.size + 1 ≠ c) := by show _ ∧ _; omega
  have nZ : Hid (w.heap.size + 1 + 1 ≠ p ∧ w.heap.size + 1 + 1 ≠ d ∧ w.heap.size + 1 + 1 ≠ c) := by show _ ∧ _; omega
  have HV : Hid (P2 _ (w.heap.size + 1) 0 ⟨#[]⟩) := hV
  have HZ : Hid (P2 _ (w.heap.size + 1 + 1) 0 ⟨#[]⟩) := hZ
  clear hV hZ h hl
  go_enter Try.func14, Try.ntmps14
  go_upto_region 3 with (go_at_call 31; refine HL.mono ?_; rintro e w1 ⟨rfl, hr, ht⟩)
  have hV1 := HV.out.turn ht nV.out
  have hZ1 := HZ.out.turn ht nZ.out
  obtain ⟨z0, z1, zf0, zf1⟩ := hZ1
  obtain ⟨v0, v1, vf0, vf1⟩ := id hV1
  have hV2 := hV1.set (m := 0) (y := ⟨#[]⟩)
  have ht2 : Turn p d c w w1 := (Turn.of_ext hx).trans ht
  have HR : Hid (Rp ((w1.setCell ⟨w.heap.size + 1, 0, none⟩ (.int .i64 0)).setCell ⟨w.heap.size + 1, 1, none⟩ (.string ⟨#[]⟩)) p d c cap (l ++ [(n, x)]) ∧ Turn p d c w ((w1.setCell ⟨w.heap.size + 1, 0, none⟩ (.int .i64 0)).setCell ⟨w.heap.size + 1, 1, none⟩ (.string ⟨#[]⟩))) := ⟨hr.set2 nV.out _ _, ht2.set2 (Nat.le_succ _) _ _⟩
  clear hr ht ht2 hX hx HL
  go_wp2_with fail
  exact bodyPost_ret (v := .tuple #[pr 0 ⟨#[]⟩, .bool false]) (by simp [results, Try.results14, go_sem, hV2.1, hV2.2.1]) rfl ⟨rfl, HR.out.1, HR.out.2⟩
set_option maxHeartbeats 2000000 in
theorem push_full_p {n0 : Int} {x0 : ByteArray} (w : World) (h : Rp w p d c cap ((n0, x0) :: l)) (n : Int) (x : ByteArray) (hl : l.length + 1 = cap) :
    Calls Try.prog 14 #[.pointer (some ⟨p, 0, none⟩), pr n x] w fun e w' => e = .returned (.tuple #[pr n0 x0, .bool true]) ∧ Rp w' p d c cap (l ++ [(n, x)]) ∧ Turn p d c w w' := by
  obtain ⟨hX, hV, hZ, hx⟩ := three_vars w n x
  obtain ⟨lp, ld, lc⟩ := h.lt
  have HL := lay_l_p _ (h.ext hx) n x
  rw [decide_eq_false (by simp; omega), if_neg (by simp; omega)] at HL
  have HP : Hid (∀ w, Rp w p d c cap ((n0, x0) :: l) → Calls Try.prog 10 #[.pointer (some ⟨p, 0, none⟩)] w fun e w' => e = .returned (.tuple #[pr n0 x0, .bool true]) ∧ Rp w' p d c cap l ∧ Turn p d c w w') := fun w h => pop_cons_p w h
  have HM : Hid (∀ w, Rp w p d c cap l → Calls Try.prog 31 #[.pointer (some ⟨p, 0, none⟩), pr n x] w fun e w' => e = .returned (.bool true) ∧ Rp w' p d c cap (l ++ [(n, x)]) ∧ Turn p d c w w') := fun w h => by
    have := lay_l_p w h n x; rw [decide_eq_true (by omega), if_pos (by omega)] at this; exact this
  have nX : Hid (w.heap.size ≠ p ∧ w.heap.size ≠ d ∧ w.heap.size ≠ c) := by show _ ∧ _; omega
  have nV : Hid (w.heap.size + 1 ≠ p ∧ w.heap.size + 1 ≠ d ∧ w.heap.size + 1 ≠ c) := by show _ ∧ _; omega
  have HX : Hid (P2 _ w.heap.size n x) := hX
  have HV : Hid (P2 _ (w.heap.size + 1) 0 ⟨#[]⟩) := hV
  clear hX hV hZ h hl
  go_enter Try.func14, Try.ntmps14
  go_upto_region 5 with (first | (go_at_call 31; refine HL.mono ?_; rintro e w1 ⟨rfl, hr, ht⟩) | (go_at_call 10; refine (HP.out _ hr).mono ?_; rintro e w2 ⟨rfl, hr2, ht2⟩))
  have hx2 : Ext w2 (w2.alloc (.cells #[.int .i64 n0, .string x0] Ep)) := (Ext.refl w2).alloc _
  have t2 : Turn p d c _ (w2.alloc (.cells #[.int .i64 n0, .string x0] Ep)) := (ht.trans ht2).trans (Turn.of_ext hx2)
  have hX2 := HX.out.turn t2 nX.out
  have hD2 : P2 (w2.alloc (.cells #[.int .i64 n0, .string x0] Ep)) w2.heap.size n0 x0 := p2_at rfl
  have HL2 := HM.out _ (hr2.ext hx2)
  have hs2 : w.heap.size + 1 + 1 < w2.heap.size + 1 + 1 := by have h1 := hx.size; have h2 := (ht.trans ht2).1.size; simp at h1 h2; omega
  have nD : Hid (w2.heap.size ≠ p ∧ w2.heap.size ≠ d ∧ w2.heap.size ≠ c) := by show _ ∧ _; omega
  have T2 : Hid (Turn p d c w (w2.alloc (.cells #[.int .i64 n0, .string x0] Ep))) := (Turn.of_ext hx).trans t2
  have HV2 : Hid (P2 (w2.alloc (.cells #[.int .i64 n0, .string x0] Ep)) (w.heap.size + 1) 0 ⟨#[]⟩) := HV.out.turn t2 nV.out
  have HD2 : Hid (P2 (w2.alloc (.cells #[.int .i64 n0, .string x0] Ep)) w2.heap.size n0 x0) := hD2
  obtain ⟨x0', x1', _, _⟩ := hX2
  clear hr ht hr2 ht2 hx2 t2 hD2 hs2
  generalize w2.alloc (.cells #[.int .i64 n0, .string x0] Ep) = W at *
  generalize w2.heap.size = D0 at *
  go_upto_region 6 with (go_at_call 31; refine HL2.mono ?_; rintro e w3 ⟨rfl, hr3, ht3⟩)
  obtain ⟨e0, e1, _, _⟩ := HD2.out.turn ht3 nD.out
  have hV3 := HV2.out.turn ht3 nV.out
  obtain ⟨v0, v1, vf0, vf1⟩ := id hV3
  have hV4 := hV3.set (m := n0) (y := x0)
  have HR : Hid (Rp ((w3.setCell ⟨w.heap.size + 1, 0, none⟩ (.int .i64 n0)).setCell ⟨w.heap.size + 1, 1, none⟩ (.string x0)) p d c cap (l ++ [(n, x)]) ∧ Turn p d c w ((w3.setCell ⟨w.heap.size + 1, 0, none⟩ (.int .i64 n0)).setCell ⟨w.heap.size + 1, 1, none⟩ (.string x0))) := ⟨hr3.set2 nV.out _ _, (T2.out.trans ht3).set2 (Nat.le_succ _) _ _⟩
  clear hr3 ht3 hx HL HL2 x0' x1'
  go_wp2_with fail
  exact bodyPost_ret (v := .tuple #[pr n0 x0, .bool true]) (by simp [results, Try.results14, go_sem, hV4.1, hV4.2.1]) rfl ⟨rfl, HR.out.1, HR.out.2⟩
end
end Go.Proofs.Ytblpdnpfhjnbgaa
