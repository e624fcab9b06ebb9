/- gimbalref3: one, Norm. The cells of an entry of a list of Two. is: of equal answers. -/
import Derived.Test.YtfmalpnlencmbaaGreatMg43p
import Derived.Test.YtfmalpnlencmbaaGreatMg29p
import Derived.Test.YtfmalpnlencmbaaGreatMg41p
namespace Go.Proofs.YtfmalpnlencmbaaGreat
open Go.RowKit Go.Shelf
end Go.Proofs.YtfmalpnlencmbaaGreat

namespace Go.Proofs.YtfmalpnlencmbaaGreat
open Go.RowKit Go.Shelf
/-- the cells of entry k: its two vectors -/
def Row6 (w : World) (b o : Nat) (a0 a1 a2 b0 b1 b2 : Int) : Prop :=
  w.cell? ⟨b, o, none⟩ = some (.int .i64 a0) ∧ w.cell? ⟨b, o + 1, none⟩ = some (.int .i64 a1) ∧ w.cell? ⟨b, o + 2, none⟩ = some (.int .i64 a2) ∧
  w.cell? ⟨b, o + 3, none⟩ = some (.int .i64 b0) ∧ w.cell? ⟨b, o + 3 + 1, none⟩ = some (.int .i64 b1) ∧ w.cell? ⟨b, o + 3 + 2, none⟩ = some (.int .i64 b2)
theorem Twos3.row {w : World} {b off len : Nat} {Z : Nat → Nat → Int} (h : Twos3 w b off len Z) {k : Nat} (hk : k < len) : Row6 w b (off + k * 16) (Z k 0) (Z k 1) (Z k 2) (Z k 3) (Z k 4) (Z k 5) :=
  ⟨(h k hk 0 (by omega)).1, (h k hk 1 (by omega)).1, (h k hk 2 (by omega)).1, (h k hk 3 (by omega)).1, (h k hk 4 (by omega)).1, (h k hk 5 (by omega)).1⟩
end Go.Proofs.YtfmalpnlencmbaaGreat

namespace Go.Proofs.YtfmalpnlencmbaaGreat
open Go.RowKit Go.Shelf
end Go.Proofs.YtfmalpnlencmbaaGreat
