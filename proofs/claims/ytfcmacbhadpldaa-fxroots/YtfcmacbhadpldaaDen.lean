/- The reference's rational numbers: den, From, Floor. -/
import Derived.Test.YtfcmacbhadpldaaRef1
namespace Go.Proofs.Ytfcmacbhadpldaa
open Go.RowKit

set_option maxHeartbeats 1000000 in
theorem den_any (n : Int) (d : Nat) (v : Value) (w : World) (h : IsQ w v n d) (hs : Small d) :
    Calls Try.prog 90 #[v] w fun e w' => (∃ r, e = .returned r ∧ IsI w' r (d : Int)) ∧ Ext w w' := by
  obtain ⟨u1, u2, rfl, k1, k2⟩ := h
  have HM : Hid (∀ w', Ext w w' → Calls Try.prog 56 #[.bool false, u2] w' fun e w'' => e = .returned (.agg #[.bool false, u2]) ∧ Ext w' w'') := fun w' hx => made_any false u2 d w' (k2.ext hx) hs
  have HI : Hid (∀ w', Ext w w' → IsI w' (.agg #[.bool false, u2]) (d : Int)) := fun w' hx => ⟨u2, by rw [decide_eq_false (by omega)], by rw [Int.natAbs_natCast]; exact k2.ext hx⟩
  obtain ⟨a1, l1, c1, rfl⟩ := k1.isSlice
  obtain ⟨a2, l2, c2, rfl⟩ := k2.isSlice
  clear k1 k2 hs
  generalize decide (n < 0) = b at *
  have XS : Hid (Ext w ((w.alloc (.cells #[.bool b, .slice a1 l1 c1, .slice a2 l2 c2] 56)).alloc (.cells #[.bool false, .slice none 0 0] 44))) := ((Ext.refl w).alloc _).alloc _
  have LS : Hid (LaidQ w.heap.size ((w.alloc (.cells #[.bool b, .slice a1 l1 c1, .slice a2 l2 c2] 56)).alloc (.cells #[.bool false, .slice none 0 0] 44)) (.bool b) (.slice a1 l1 c1) (.slice a2 l2 c2)) := laidQ_start w _ _ _
  go_enter Try.func90, Try.ntmps90
  go_wp2_with fail
  generalize (w.alloc (.cells #[.bool b, .slice a1 l1 c1, .slice a2 l2 c2] 56)).alloc (.cells #[.bool false, .slice none 0 0] 44) = W at *
  refine (HM.out _ XS.out).mono ?_
  rintro e w1 ⟨rfl, x1⟩
  obtain ⟨_, ⟨t0, t1, t2, t3⟩⟩ := LS.out.ext x1
  have X9 : Hid (Ext w w1) := XS.out.trans x1
  have HI9 : Hid (IsI w1 (.agg #[.bool false, .slice a2 l2 c2]) (d : Int)) := HI.out _ X9.out
  clear x1
  go_wp2_with fail
  exact bodyPost_ret (v := .agg #[.bool false, .slice a2 l2 c2]) (by simp [results, Try.results90, go_sem, t0, t1]) rfl ⟨⟨_, rfl, HI9.out.set2 t0 t1⟩, (X9.out.setCell (show w.heap.size ≤ w.heap.size + 1 by omega) _).setCell (show w.heap.size ≤ w.heap.size + 1 by omega) _⟩

theorem far3 (w : World) (x y z : Value) (b o : Nat) {g : Nat} (h : b ≠ g) : (((w.setCell ⟨g, 0, none⟩ x).setCell ⟨g, 1, none⟩ y).setCell ⟨g, 2, none⟩ z).cell? ⟨b, o, none⟩ = w.cell? ⟨b, o, none⟩ := by
  rw [World.cell?_setCell_far _ _ _ _ (by simpa using h.symm), far2 _ _ _ _ _ h]

set_option maxHeartbeats 1000000 in
theorem qfrom_any (x : Int) (r : Value) (w : World) (h : IsI w r x) :
    Calls Try.prog 50 #[r] w fun e w' => (∃ q, e = .returned q ∧ IsQ w' q x 1) ∧ Ext w w' := by
  obtain ⟨u, rfl, hu⟩ := h
  have HO : Hid (∀ w', Calls Try.prog 58 #[.int .u64 1] w' fun e w'' => (∃ v', e = .returned v' ∧ IsN w'' v' 1) ∧ Ext w' w'') := fun w' => nof_any 1 (by omega) w'
  have HU : Hid (IsN w u x.natAbs) := hu
  obtain ⟨a1, l1, c1, rfl⟩ := hu.isSlice
  clear hu
  have XS : Hid (Ext w ((w.alloc (.cells #[.bool (decide (x < 0)), .slice a1 l1 c1] 44)).alloc (.cells #[.bool false, .slice none 0 0, .slice none 0 0] 56))) := ((Ext.refl w).alloc _).alloc _
  have LS : Hid (LaidR w.heap.size ((w.alloc (.cells #[.bool (decide (x < 0)), .slice a1 l1 c1] 44)).alloc (.cells #[.bool false, .slice none 0 0, .slice none 0 0] 56)) (.bool (decide (x < 0))) (.slice a1 l1 c1)) := laidR_start w _ _
  have HF : Hid (∀ u1 u2 w', IsN w' u1 x.natAbs → IsN w' u2 1 → IsQ w' (.agg #[.bool (decide (x < 0)), u1, u2]) x 1) := fun u1 u2 w' h1 h2 => ⟨u1, u2, rfl, h1, h2⟩
  generalize decide (x < 0) = b at *
  go_enter Try.func50, Try.ntmps50
  go_wp2_with fail
  generalize (w.alloc (.cells #[.bool b, .slice a1 l1 c1] 44)).alloc (.cells #[.bool false, .slice none 0 0, .slice none 0 0] 56) = W at *
  obtain ⟨⟨p0, p1, p2, p3⟩, _⟩ := LS.out
  have n1 : w.heap.size ≠ w.heap.size + 1 := by omega
  go_region_held (fun w' => w'.cell? ⟨w.heap.size, 0, none⟩ = some (.bool b) ∧ w'.cell? ⟨w.heap.size, 1, none⟩ = some (.slice a1 l1 c1)) (first | (go_keep; done) | (simp only [far3 _ _ _ _ _ _ n1]; exact ⟨by assumption, by assumption⟩)) (first | (go_at_call 58; refine (HO.out _).mono ?_; rintro e w1 ⟨⟨v1, rfl, h1⟩, x1⟩; obtain ⟨⟨s0, s1, s2, s3⟩, ⟨t0, t1, t2, t3, t4, t5⟩⟩ := LS.out.ext (cell_drew x1); obtain ⟨av, lv, cv, ev⟩ := h1.isSlice; subst ev))
  have X9 : Hid (Ext w w1) := XS.out.trans (cell_drew x1)
  have HQ : Hid (IsQ w1 (.agg #[.bool b, .slice a1 l1 c1, .slice av lv cv]) x 1) := HF.out _ _ _ (HU.out.ext X9.out) h1
  go_wp2_with fail
  exact bodyPost_ret (v := .agg #[.bool b, .slice a1 l1 c1, .slice av lv cv]) (by simp [results, Try.results50, go_sem, t0, t1, t2]) rfl
    ⟨⟨_, rfl, HQ.out.set3 t0 t1 t2⟩, ((X9.out.setCell (show w.heap.size ≤ w.heap.size + 1 by omega) _).setCell (show w.heap.size ≤ w.heap.size + 1 by omega) _).setCell (show w.heap.size ≤ w.heap.size + 1 by omega) _⟩
end Go.Proofs.Ytfcmacbhadpldaa
