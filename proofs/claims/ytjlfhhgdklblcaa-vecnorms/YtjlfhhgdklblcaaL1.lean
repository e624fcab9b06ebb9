/- The cells of an entry of a list of Two. -/
import Derived.Test.YtjlfhhgdklblcaaL0
namespace Go.Proofs.Ytjlfhhgdklblcaa
open Go.RowKit Go.Shelf
theorem cell_al {w : World} {b o : Nat} {v : Value} (h : w.cell? ⟨b, o, none⟩ = some v) (x : Obj) : (w.alloc x).cell? ⟨b, o, none⟩ = some v := ((Ext.refl _).alloc x).keepc h
theorem cell_al2 {w : World} {b o : Nat} {v : Value} (h : w.cell? ⟨b, o, none⟩ = some v) (x y : Obj) : ((w.alloc x).alloc y).cell? ⟨b, o, none⟩ = some v := cell_al (cell_al h x) y
/-- the cells of entry k: its two vectors -/
def Row6 (w : World) (b o : Nat) (a0 a1 a2 b0 b1 b2 : Int) : Prop :=
  w.cell? ⟨b, o, none⟩ = some (.int .i64 a0) ∧ w.cell? ⟨b, o + 1, none⟩ = some (.int .i64 a1) ∧ w.cell? ⟨b, o + 2, none⟩ = some (.int .i64 a2) ∧
  w.cell? ⟨b, o + 3, none⟩ = some (.int .i64 b0) ∧ w.cell? ⟨b, o + 3 + 1, none⟩ = some (.int .i64 b1) ∧ w.cell? ⟨b, o + 3 + 2, none⟩ = some (.int .i64 b2)
theorem Twos3.row {w : World} {b off len : Nat} {Z : Nat → Nat → Int} (h : Twos3 w b off len Z) {k : Nat} (hk : k < len) : Row6 w b (off + k * 16) (Z k 0) (Z k 1) (Z k 2) (Z k 3) (Z k 4) (Z k 5) :=
  ⟨(h k hk 0 (by omega)).1, (h k hk 1 (by omega)).1, (h k hk 2 (by omega)).1, (h k hk 3 (by omega)).1, (h k hk 4 (by omega)).1, (h k hk 5 (by omega)).1⟩
theorem Row6.al {w : World} {b o : Nat} {a0 a1 a2 b0 b1 b2 : Int} (h : Row6 w b o a0 a1 a2 b0 b1 b2) (x : Obj) : Row6 (w.alloc x) b o a0 a1 a2 b0 b1 b2 := by
  obtain ⟨h0, h1, h2, h3, h4, h5⟩ := h
  exact ⟨cell_al h0 x, cell_al h1 x, cell_al h2 x, cell_al h3 x, cell_al h4 x, cell_al h5 x⟩
end Go.Proofs.Ytjlfhhgdklblcaa
