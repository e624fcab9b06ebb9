/- wheel: which timer comes ahead; swap. -/
import Derived.Test.YtehphgpkhfokhaaJc
namespace Go.Proofs.Ytehphgpkhfokhaa
open Go.RowKit
theorem tm_at {w : World} {b : Nat} {t : Tm} {T : TypeId} (h : w.heap.size = b) : (w.alloc (.cells #[.int .i64 t.1, .int .i64 t.2.1, .int .i64 t.2.2] T)).cell? ⟨b, 0, none⟩ = some (.int .i64 t.1) ∧ (w.alloc (.cells #[.int .i64 t.1, .int .i64 t.2.1, .int .i64 t.2.2] T)).cell? ⟨b, 1, none⟩ = some (.int .i64 t.2.1) ∧ (w.alloc (.cells #[.int .i64 t.1, .int .i64 t.2.1, .int .i64 t.2.2] T)).cell? ⟨b, 2, none⟩ = some (.int .i64 t.2.2) := by
  subst h
  refine ⟨?_, ?_, ?_⟩ <;> simp [go_sem]
set_option maxRecDepth 20000 in
set_option maxHeartbeats 4000000 in
theorem tahead_any (a b : Tm) (w : World) :
    Calls Try.prog 78 #[tv a, tv b] w fun e w' => e = .returned (.bool (dlt a b)) ∧ Ext w w' := by
  have HC : Hid (∀ a b w', Calls Try.prog 80 #[.int .i64 a, .int .i64 b] w' fun e w'' => e = .returned (.int .i64 (cmpI a b)) ∧ w'' = w') := compare_any
  have HO : Hid (∀ g w', w'.cell? ⟨g, 0, none⟩ = some (.int .i64 (cmpI a.2.1 b.2.1)) ∧ w'.cell? ⟨g, 1, none⟩ = some (.int .i64 (cmpI a.2.2 b.2.2)) → Calls Try.prog 79 #[.slice (some ⟨g, 0, none⟩) 2 2] w' fun e w'' => e = .returned (.int .i64 (orI (cmpI a.2.1 b.2.1) (cmpI a.2.2 b.2.2))) ∧ w'' = w') := fun g w' h => or_any _ _ g w' h.1 h.2
  have hlt := lt_or a b
  rw [← hlt]
  obtain ⟨a1, a2, a3⟩ := a
  obtain ⟨b1, b2, b3⟩ := b
  unfold tv
  simp only at HO hlt ⊢
  clear hlt
  generalize orI (cmpI a2 b2) (cmpI a3 b3) = R at *
  go_enter Try.func78, Try.ntmps78
  go_wp2_with fail
  have BB : Hid (∃ W, ((w.alloc (.cells #[.int .i64 a1, .int .i64 a2, .int .i64 a3] Et)).alloc (.cells #[.int .i64 b1, .int .i64 b2, .int .i64 b3] Et)) = W ∧ Ext w W ∧ W.cell? ⟨w.heap.size, 1, none⟩ = some (.int .i64 a2) ∧ W.cell? ⟨w.heap.size, 2, none⟩ = some (.int .i64 a3) ∧ W.cell? ⟨w.heap.size + 1, 1, none⟩ = some (.int .i64 b2) ∧ W.cell? ⟨w.heap.size + 1, 2, none⟩ = some (.int .i64 b3)) := ⟨_, rfl, ((Ext.refl w).alloc _).alloc _, by simp [go_sem], by simp [go_sem], by simp [go_sem], by simp [go_sem]⟩
  obtain ⟨W, hW, hx, c1, c2, c3, c4⟩ := BB.out
  rw [hW]
  clear hW BB
  go_region_held (fun w' => w'.cell? ⟨w.heap.size, 1, none⟩ = some (.int .i64 a2) ∧ w'.cell? ⟨w.heap.size, 2, none⟩ = some (.int .i64 a3) ∧ w'.cell? ⟨w.heap.size + 1, 1, none⟩ = some (.int .i64 b2) ∧ w'.cell? ⟨w.heap.size + 1, 2, none⟩ = some (.int .i64 b3)) (first | (go_keep; done) | skip) (first | (go_at_call 80; refine (HC.out _ _ _).mono ?_; rintro e wx ⟨rfl, hwx⟩; have hwy := hwx.symm; clear hwx; subst hwy) | (go_at_call 79; refine (HO.out _ _ (by constructor <;> simp [go_sem])).mono ?_; rintro e wx ⟨rfl, hwx⟩; have hwy := hwx.symm; clear hwx; subst hwy))
  all_goals
    go_wp2_with fail
    go_ret
    refine ⟨by simp, ?_⟩
    repeat (first | with_reducible assumption | with_reducible exact Ext.refl _ | with_reducible refine Ext.drew ?_ | with_reducible refine Ext.alloc ?_ _)
end Go.Proofs.Ytehphgpkhfokhaa
