/- A list of Two in memory. -/
import Derived.Test.YtfcmacbhadpldaaFaces
namespace Go.Proofs.Ytfcmacbhadpldaa
open Go.RowKit

/-- a list of Two: cell j of entry i holds the number Z i j -/
def Twos (w : World) (b off len : Nat) (Z : Nat → Nat → Int) : Prop :=
  ∀ i, i < len → ∀ j, j < 6 → w.cell? ⟨b, off + i * 6 + j, none⟩ = some (.int .i64 (Z i j)) ∧ -9223372036854775808 ≤ Z i j ∧ Z i j ≤ 9223372036854775807
theorem cell_lt {w : World} {p : Addr} {v : Value} (h : w.cell? p = some v) : p.block < w.heap.size := by
  apply Nat.lt_of_not_le
  intro hle
  have : w.heap[p.block]? = none := Array.getElem?_eq_none hle
  simp [World.cell?, this] at h
theorem Twos.ext {w w' : World} {b off len : Nat} {Z : Nat → Nat → Int} (h : Twos w b off len Z) (hx : Ext w w') : Twos w' b off len Z := by
  intro i hi j hj
  obtain ⟨h1, h2⟩ := h i hi j hj
  refine ⟨?_, h2⟩
  rw [(hx.lay).1 b _ (cell_lt h1)]
  exact h1
theorem Twos.row {w : World} {b off len : Nat} {Z : Nat → Nat → Int} (h : Twos w b off len Z) {k : Nat} (hk : k < len) : ∃ v0 v1 v2 v3 v4 v5 : Int,
    w.cell? ⟨b, off + k * 6, none⟩ = some (.int .i64 v0) ∧ w.cell? ⟨b, off + k * 6 + 1, none⟩ = some (.int .i64 v1) ∧ w.cell? ⟨b, off + k * 6 + 2, none⟩ = some (.int .i64 v2) ∧
    w.cell? ⟨b, off + k * 6 + 3, none⟩ = some (.int .i64 v3) ∧ w.cell? ⟨b, off + k * 6 + 4, none⟩ = some (.int .i64 v4) ∧ w.cell? ⟨b, off + k * 6 + 5, none⟩ = some (.int .i64 v5) ∧
    (-9223372036854775808 ≤ v0 ∧ v0 ≤ 9223372036854775807) ∧ (-9223372036854775808 ≤ v1 ∧ v1 ≤ 9223372036854775807) ∧ (-9223372036854775808 ≤ v2 ∧ v2 ≤ 9223372036854775807) ∧
    (-9223372036854775808 ≤ v3 ∧ v3 ≤ 9223372036854775807) ∧ (-9223372036854775808 ≤ v4 ∧ v4 ≤ 9223372036854775807) ∧ (-9223372036854775808 ≤ v5 ∧ v5 ≤ 9223372036854775807) :=
  ⟨_, _, _, _, _, _, (h k hk 0 (by omega)).1, (h k hk 1 (by omega)).1, (h k hk 2 (by omega)).1, (h k hk 3 (by omega)).1, (h k hk 4 (by omega)).1, (h k hk 5 (by omega)).1,
    (h k hk 0 (by omega)).2, (h k hk 1 (by omega)).2, (h k hk 2 (by omega)).2, (h k hk 3 (by omega)).2, (h k hk 4 (by omega)).2, (h k hk 5 (by omega)).2⟩
theorem Ext.cells6 {w w' : World} {u0 u1 u2 u3 u4 u5 : Value} {T : TypeId} (h : Ext (w.alloc (.cells #[u0, u1, u2, u3, u4, u5] T)) w') :
    w'.cell? ⟨w.heap.size, 0, none⟩ = some u0 ∧ w'.cell? ⟨w.heap.size, 1, none⟩ = some u1 ∧ w'.cell? ⟨w.heap.size, 2, none⟩ = some u2 ∧
    w'.cell? ⟨w.heap.size, 3, none⟩ = some u3 ∧ w'.cell? ⟨w.heap.size, 4, none⟩ = some u4 ∧ w'.cell? ⟨w.heap.size, 5, none⟩ = some u5 := by
  obtain ⟨hc, _, _⟩ := h.lay
  refine ⟨?_, ?_, ?_, ?_, ?_, ?_⟩ <;> (rw [hc _ _ (by simp)]; simp [go_sem])
end Go.Proofs.Ytfcmacbhadpldaa
