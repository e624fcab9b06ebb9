/- wheel: swap. -/
import Derived.Test.YtehphgpkhfokhaaJe
namespace Go.Proofs.Ytehphgpkhfokhaa
open Go.RowKit
set_option maxRecDepth 20000 in
set_option maxHeartbeats 8000000 in
theorem swap_any {p g cap : Nat} {xs : List Tm} {T : Int} (i j : Nat) (w : World) (h : HS w p (.slice (some ⟨g, 0, none⟩) xs.length cap) xs T) (hi : i < xs.length) (hj : j < xs.length) (hij : i ≠ j) :
    Calls Try.prog 60 #[.pointer (some ⟨p, 1, none⟩), .int .i64 i, .int .i64 j] w fun e w' => (∃ v, e = .returned v) ∧ HS w' p (.slice (some ⟨g, 0, none⟩) (swl xs i j).length cap) (swl xs i j) T ∧ Turn (own p (.slice (some ⟨g, 0, none⟩) xs.length cap)) w w' := by
  have HR : Hid (∀ n, HS (((((((w.drewN n).setCell ⟨g, i * 3, none⟩ (.int .i64 (gt xs j).1)).setCell ⟨g, i * 3 + 1, none⟩ (.int .i64 (gt xs j).2.1)).setCell ⟨g, i * 3 + 2, none⟩ (.int .i64 (gt xs j).2.2)).setCell ⟨g, j * 3, none⟩ (.int .i64 (gt xs i).1)).setCell ⟨g, j * 3 + 1, none⟩ (.int .i64 (gt xs i).2.1)).setCell ⟨g, j * 3 + 2, none⟩ (.int .i64 (gt xs i).2.2)) p (.slice (some ⟨g, 0, none⟩) (swl xs i j).length cap) (swl xs i j) T) := fun n => by
    have h1 := (h.drewN n).put i (gt xs j)
    exact h1.put j (gt xs i)
  have HO : Hid (∀ j, own p (.slice (some ⟨g, 0, none⟩) xs.length cap) g j) := fun _ => .inr rfl
  obtain ⟨i0, i1, i2⟩ := h.cells hi
  obtain ⟨j0, j1, j2⟩ := h.cells hj
  have fi0 := h.frozen (i * 3)
  have fi1 := h.frozen (i * 3 + 1)
  have fi2 := h.frozen (i * 3 + 2)
  have fj0 := h.frozen (j * 3)
  have fj1 := h.frozen (j * 3 + 1)
  have fj2 := h.frozen (j * 3 + 2)
  have hp := h.1.1
  have hi' : (i : Int) < (xs.length : Int) := by omega
  have hj' : (j : Int) < (xs.length : Int) := by omega
  have ne1 : i * 3 ≠ j * 3 := by omega
  have ne2 : i * 3 + 1 ≠ j * 3 := by omega
  have ne3 : i * 3 + 2 ≠ j * 3 := by omega
  have ne4 : i * 3 ≠ j * 3 + 1 := by omega
  have ne5 : i * 3 + 1 ≠ j * 3 + 1 := by omega
  have ne6 : i * 3 + 2 ≠ j * 3 + 1 := by omega
  have ne7 : i * 3 ≠ j * 3 + 2 := by omega
  have ne8 : i * 3 + 1 ≠ j * 3 + 2 := by omega
  have ne9 : i * 3 + 2 ≠ j * 3 + 2 := by omega
  clear h hi hj
  generalize (gt xs i).1 = a1 at *
  generalize (gt xs i).2.1 = a2 at *
  generalize (gt xs i).2.2 = a3 at *
  generalize (gt xs j).1 = b1 at *
  generalize (gt xs j).2.1 = b2 at *
  generalize (gt xs j).2.2 = b3 at *
  go_enter Try.func60, Try.ntmps60
  go_wp2_with fail
  go_region
  go_end0
  refine ⟨⟨_, rfl⟩, (HR.out 0).drew, ?_⟩
  exact ((((((((Turn.refl _ w).set (HO.out _) _).set (HO.out _) _).set (HO.out _) _).set (HO.out _) _).set (HO.out _) _).set (HO.out _) _)).drew
end Go.Proofs.Ytehphgpkhfokhaa
