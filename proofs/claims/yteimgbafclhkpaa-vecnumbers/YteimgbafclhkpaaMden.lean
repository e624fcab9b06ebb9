/- The reference's rational numbers: den, From, Floor. -/
import Derived.Test.YteimgbafclhkpaaMg36
namespace Go.Proofs.Yteimgbafclhkpaa
open Go.RowKit

set_option maxHeartbeats 1000000 in
theorem den_any (n : Int) (d : Nat) (v : Value) (w : World) (h : IsQ w v n d) (hs : Small d) :
    Calls Try.prog 85 #[v] w fun e w' => (∃ r, e = .returned r ∧ IsI w' r (d : Int)) ∧ Ext w w' := by
  obtain ⟨u1, u2, rfl, k1, k2⟩ := h
  have HM : Hid (∀ w', Ext w w' → Calls Try.prog 43 #[.bool false, u2] w' fun e w'' => e = .returned (.agg #[.bool false, u2]) ∧ Ext w' w'') := fun w' hx => made_any false u2 d w' (k2.ext hx) hs
  have HI : Hid (∀ w', Ext w w' → IsI w' (.agg #[.bool false, u2]) (d : Int)) := fun w' hx => ⟨u2, by rw [decide_eq_false (by omega)], by rw [Int.natAbs_natCast]; exact k2.ext hx⟩
  obtain ⟨a1, l1, c1, rfl⟩ := k1.isSlice
  obtain ⟨a2, l2, c2, rfl⟩ := k2.isSlice
  clear k1 k2 hs
  generalize decide (n < 0) = b at *
  have XS : Hid (Ext w ((w.alloc (.cells #[.bool b, .slice a1 l1 c1, .slice a2 l2 c2] 79)).alloc (.cells #[.bool false, .slice none 0 0] 53))) := ((Ext.refl w).alloc _).alloc _
  have LS : Hid (LaidQ w.heap.size ((w.alloc (.cells #[.bool b, .slice a1 l1 c1, .slice a2 l2 c2] 79)).alloc (.cells #[.bool false, .slice none 0 0] 53)) (.bool b) (.slice a1 l1 c1) (.slice a2 l2 c2)) := laidQ_start w _ _ _
  go_enter Try.func85, Try.ntmps85
  go_wp2_with fail
  generalize (w.alloc (.cells #[.bool b, .slice a1 l1 c1, .slice a2 l2 c2] 79)).alloc (.cells #[.bool false, .slice none 0 0] 53) = W at *
  refine (HM.out _ XS.out).mono ?_
  rintro e w1 ⟨rfl, x1⟩
  obtain ⟨_, ⟨t0, t1, t2, t3⟩⟩ := LS.out.ext x1
  have X9 : Hid (Ext w w1) := XS.out.trans x1
  have HI9 : Hid (IsI w1 (.agg #[.bool false, .slice a2 l2 c2]) (d : Int)) := HI.out _ X9.out
  clear x1
  go_wp2_with fail
  exact bodyPost_ret (v := .agg #[.bool false, .slice a2 l2 c2]) (by simp [results, Try.results85, go_sem, t0, t1]) rfl ⟨⟨_, rfl, HI9.out.set2 t0 t1⟩, (X9.out.setCell (show w.heap.size ≤ w.heap.size + 1 by omega) _).setCell (show w.heap.size ≤ w.heap.size + 1 by omega) _⟩

theorem far3 (w : World) (x y z : Value) (b o : Nat) {g : Nat} (h : b ≠ g) : (((w.setCell ⟨g, 0, none⟩ x).setCell ⟨g, 1, none⟩ y).setCell ⟨g, 2, none⟩ z).cell? ⟨b, o, none⟩ = w.cell? ⟨b, o, none⟩ := by
  rw [World.cell?_setCell_far _ _ _ _ (by simpa using h.symm), far2 _ _ _ _ _ h]

end Go.Proofs.Yteimgbafclhkpaa
