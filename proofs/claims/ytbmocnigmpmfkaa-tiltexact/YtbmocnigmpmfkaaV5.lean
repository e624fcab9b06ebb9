/- vec: pairwise. -/
import Derived.Test.YtbmocnigmpmfkaaV2
import Derived.Test.YtbmocnigmpmfkaaV3m
namespace Go.Proofs.Ytbmocnigmpmfkaa
open Go.RowKit Go.Shelf

theorem thr_shape (r0 e0 r1 e1 r2 e2 : Int) : ∃ x y z e : Int, thr r0 e0 r1 e1 r2 e2 = .tuple #[.agg #[.int .i64 x, .int .i64 y, .int .i64 z], .int .i64 e] := by
  unfold thr
  split
  · split
    · split
      · exact ⟨_, _, _, _, rfl⟩
      · exact ⟨_, _, _, _, rfl⟩
    · exact ⟨_, _, _, _, rfl⟩
  · exact ⟨_, _, _, _, rfl⟩
def two6 (a0 a1 a2 b0 b1 b2 : Int) (i j : Nat) : Int := if i = 0 then (if j = 0 then a0 else if j = 1 then a1 else a2) else (if j = 0 then b0 else if j = 1 then b1 else b2)
theorem cells6_at (a0 a1 a2 b0 b1 b2 : Int) (W : World) (n : Nat) (T : TypeId) (hn : W.heap.size = n) : ∀ i, i < 2 → ∀ j, j < 3 → (W.alloc (.cells #[.int .i64 a0, .int .i64 a1, .int .i64 a2, .int .i64 b0, .int .i64 b1, .int .i64 b2] T)).cell? ⟨n, i * 3 + j, none⟩ = some (.int .i64 (two6 a0 a1 a2 b0 b1 b2 i j)) := by
  subst hn
  intro i hi j hj
  have hi' : i = 0 ∨ i = 1 := by omega
  have hj' : j = 0 ∨ j = 1 ∨ j = 2 := by omega
  rcases hi' with rfl | rfl <;> rcases hj' with rfl | rfl | rfl <;> simp [go_sem, two6]
theorem check2_yes (a0 a1 a2 b0 b1 b2 : Int) (W : World) (n : Nat) (T : TypeId) (hn : W.heap.size = n) (h1 : ok3 a0 a1 a2 = true) (h2 : ok3 b0 b1 b2 = true) :
    Calls Try.prog 24 #[.slice (some ⟨n, 0, none⟩) 2 2] (W.alloc (.cells #[.int .i64 a0, .int .i64 a1, .int .i64 a2, .int .i64 b0, .int .i64 b1, .int .i64 b2] T)) fun e w' => e = .returned (.int .i64 0) ∧ Ext (W.alloc (.cells #[.int .i64 a0, .int .i64 a1, .int .i64 a2, .int .i64 b0, .int .i64 b1, .int .i64 b2] T)) w' := by
  refine (check_list 2 (two6 a0 a1 a2 b0 b1 b2) n _ (by omega) (cells6_at a0 a1 a2 b0 b1 b2 W n T hn)).mono ?_
  rintro e w1 ⟨⟨r, rfl, hr⟩, x⟩
  rcases hr with ⟨rfl, _⟩ | ⟨_, i, hi, hb⟩
  · exact ⟨rfl, x⟩
  · exfalso
    have hi' : i = 0 ∨ i = 1 := by omega
    rcases hi' with rfl | rfl
    · simp [two6, h1] at hb
    · simp [two6, h2] at hb
theorem check2_no (a0 a1 a2 b0 b1 b2 : Int) (W : World) (n : Nat) (T : TypeId) (hn : W.heap.size = n) (h : (ok3 a0 a1 a2 && ok3 b0 b1 b2) = false) :
    Calls Try.prog 24 #[.slice (some ⟨n, 0, none⟩) 2 2] (W.alloc (.cells #[.int .i64 a0, .int .i64 a1, .int .i64 a2, .int .i64 b0, .int .i64 b1, .int .i64 b2] T)) fun e w' => e = .returned (.int .i64 1) ∧ Ext (W.alloc (.cells #[.int .i64 a0, .int .i64 a1, .int .i64 a2, .int .i64 b0, .int .i64 b1, .int .i64 b2] T)) w' := by
  refine (check_list 2 (two6 a0 a1 a2 b0 b1 b2) n _ (by omega) (cells6_at a0 a1 a2 b0 b1 b2 W n T hn)).mono ?_
  rintro e w1 ⟨⟨r, rfl, hr⟩, x⟩
  rcases hr with ⟨rfl, hk⟩ | ⟨rfl, _⟩
  · exfalso
    have h1 := hk 0 (by omega)
    have h2 := hk 1 (by omega)
    simp [two6] at h1 h2
    rw [h1, h2] at h
    cases h
  · exact ⟨rfl, x⟩

end Go.Proofs.Ytbmocnigmpmfkaa
