/- Plain numbers: one step of a long division by a normalized divisor of two digits; rounding to the nearest, halves to even. Plain numbers: what bits.Div64 reckons with. What every walk needs, without a function of the program. What walks over variables of arrays and structs need. Plain numbers: a whole number as three limbs of 64 bits, in two's complement. A variable of any number of cells. -/
import Derived.WalkKit
import Derived.Lib.BitFns
import Derived.Laws.Bits64b
import Derived.Shelf.Bits.Mul64
import Derived.Test.YtfmalpnlencmbaaGreatRows
import Derived.Deep.QuietTactic
import Derived.BigQuiet
import Derived.Deep.RegionWith
import Derived.WalkLawsBesides
import Derived.WalkSpells
import Derived.BigRegion
import Derived.Deep.MidRow
namespace Go.Proofs.YtfmalpnlencmbaaGreat.Num

end Go.Proofs.YtfmalpnlencmbaaGreat.Num

namespace Go.Proofs.YtfmalpnlencmbaaGreat.Num
open Go.RowKit

theorem or_shift (h l s : Nat) (hs : s ≤ 63) (hl : l < 2 ^ s) (hh : h * 2 ^ s < 18446744073709551616) :
    bits .or .u64 ((h * 2 ^ s : Nat) : Int) ((l : Nat) : Int) = ((h * 2 ^ s + l : Nat) : Int) := by
  have hl' : l < 18446744073709551616 := Nat.lt_of_lt_of_le hl (by have := Nat.pow_le_pow_right (n := 2) (by omega) (show s ≤ 64 by omega); simpa using this)
  rw [bits_or_u64_nat _ _ hh hl']
  have : h * 2 ^ s ||| l = h * 2 ^ s + l := by
    rw [Nat.mul_comm, ← Nat.two_pow_add_eq_or_of_lt hl]
  rw [this]

theorem wrapMod (a : Nat) : IntKind.u64.wrap (a : Int) = ((a % 18446744073709551616 : Nat) : Int) := by rw [IntKind.wrap_u64]; omega

theorem cast_shl (a s : Nat) : (a : Int) * 2 ^ s = ((a * 2 ^ s : Nat) : Int) := by simp [Int.natCast_mul, Int.natCast_pow]
theorem cast_shr (a s : Nat) : (a : Int) / 2 ^ s = ((a / 2 ^ s : Nat) : Int) := by simp [Int.natCast_ediv, Int.natCast_pow]

theorem wrapI (a : Int) (h0 : 0 ≤ a) (h1 : a < 18446744073709551616) : IntKind.u64.wrap a = a := by rw [IntKind.wrap_u64]; omega
/-- a product that does not wrap -/
theorem prod_of (a y0 : Int) (h0 : 0 ≤ a) (h1 : a < 4294967296) (k0 : 0 ≤ y0) (k1 : y0 < 4294967296) : ∃ p : Int, IntKind.u64.wrap (a * y0) = p ∧ a * y0 = p ∧ 0 ≤ p ∧ p < 18446744073709551616 := by
  have h : a * y0 ≤ 4294967295 * 4294967295 := Int.mul_le_mul (by omega) (by omega) k0 (by omega)
  have h' := Int.mul_nonneg h0 k0
  exact ⟨a * y0, wrapI _ h' (by omega), rfl, h', by omega⟩
end Go.Proofs.YtfmalpnlencmbaaGreat.Num

namespace Go.Proofs.YtfmalpnlencmbaaGreat
open Go.RowKit

def okW (v : Int) : Bool := decide (-35184372088832 < v) && decide (v < 35184372088832)
def chk (v : Int) : Int := if okW v then 0 else 1
theorem ret_int {k : IntKind} {a b : Int} (h : a = b) : Ending.returned (.int k a) = .returned (.int k b) := by rw [h]
/-- Nothing that was there has turned; there may be more. -/
def Ext (w w' : World) : Prop := Below w.heap.size w w'
theorem Ext.refl (w : World) : Ext w w := Below.refl _ _
theorem Ext.size {w w' : World} (h : Ext w w') : w.heap.size ≤ w'.heap.size := Below.size h
theorem Ext.trans {a b c : World} (h : Ext a b) (k : Ext b c) : Ext a c := Below.trans h (Below.mono k h.size)
theorem Ext.drew {a w : World} (h : Ext a w) : Ext a w.drew := Below.drew h
theorem Ext.alloc {a w : World} (h : Ext a w) (o : Obj) : Ext a (w.alloc o) := Below.alloc h h.size o
theorem Ext.lay {w w' : World} (h : Ext w w') : (∀ b o, b < w.heap.size → w'.cell? ⟨b, o, none⟩ = w.cell? ⟨b, o, none⟩) ∧ (∀ b o, b < w.heap.size → w'.frozen? ⟨b, o, none⟩ = w.frozen? ⟨b, o, none⟩) ∧ w.heap.size ≤ w'.heap.size :=
  ⟨fun b o k => Below.cell (p := ⟨b, o, none⟩) h k, fun b o k => Below.frozen (p := ⟨b, o, none⟩) h k, h.size⟩
theorem ret_bool {a b : Bool} (h : a = b) : Ending.returned (.bool a) = .returned (.bool b) := by rw [h]
theorem Ext.drewN {a w : World} (h : Ext a w) : ∀ n, Ext a (w.drewN n)
  | 0 => h
  | n + 1 => (Ext.drewN h n).drew
theorem Ext.cells2 {w w' : World} {u v : Value} {T : TypeId} (h : Ext (w.alloc (.cells #[u, v] T)) w') : w'.cell? ⟨w.heap.size, 0, none⟩ = some u ∧ w'.cell? ⟨w.heap.size, 1, none⟩ = some v := by
  obtain ⟨hc, _, _⟩ := h.lay
  constructor
  · rw [hc _ _ (by simp)]; simp [go_sem]
  · rw [hc _ _ (by simp)]; simp [go_sem]
def fitR (v : Int) : Int × Int := if okW v then (v, 0) else (0, 2)
theorem okW_bounds {v : Int} (h : okW v = true) : -35184372088832 < v ∧ v < 35184372088832 := by
  unfold okW at h
  simpa using h
/-- a list of Two: cell j of entry i holds the number Z i j -/
def Twos (w : World) (b off len : Nat) (Z : Nat → Nat → Int) : Prop :=
  ∀ i, i < len → ∀ j, j < 6 → w.cell? ⟨b, off + i * 6 + j, none⟩ = some (.int .i64 (Z i j)) ∧ -9223372036854775808 ≤ Z i j ∧ Z i j ≤ 9223372036854775807
theorem cell_lt {w : World} {p : Addr} {v : Value} (h : w.cell? p = some v) : p.block < w.heap.size := by
  apply Nat.lt_of_not_le
  intro hle
  have : w.heap[p.block]? = none := Array.getElem?_eq_none hle
  simp [World.cell?, this] at h
theorem Twos.ext {w w' : World} {b off len : Nat} {Z : Nat → Nat → Int} (h : Twos w b off len Z) (hx : Ext w w') : Twos w' b off len Z := by
  intro i hi j hj
  obtain ⟨h1, h2⟩ := h i hi j hj
  refine ⟨?_, h2⟩
  rw [(hx.lay).1 b _ (cell_lt h1)]
  exact h1
theorem Twos.row {w : World} {b off len : Nat} {Z : Nat → Nat → Int} (h : Twos w b off len Z) {k : Nat} (hk : k < len) : ∃ v0 v1 v2 v3 v4 v5 : Int,
    w.cell? ⟨b, off + k * 6, none⟩ = some (.int .i64 v0) ∧ w.cell? ⟨b, off + k * 6 + 1, none⟩ = some (.int .i64 v1) ∧ w.cell? ⟨b, off + k * 6 + 2, none⟩ = some (.int .i64 v2) ∧
    w.cell? ⟨b, off + k * 6 + 3, none⟩ = some (.int .i64 v3) ∧ w.cell? ⟨b, off + k * 6 + 4, none⟩ = some (.int .i64 v4) ∧ w.cell? ⟨b, off + k * 6 + 5, none⟩ = some (.int .i64 v5) ∧
    (-9223372036854775808 ≤ v0 ∧ v0 ≤ 9223372036854775807) ∧ (-9223372036854775808 ≤ v1 ∧ v1 ≤ 9223372036854775807) ∧ (-9223372036854775808 ≤ v2 ∧ v2 ≤ 9223372036854775807) ∧
    (-9223372036854775808 ≤ v3 ∧ v3 ≤ 9223372036854775807) ∧ (-9223372036854775808 ≤ v4 ∧ v4 ≤ 9223372036854775807) ∧ (-9223372036854775808 ≤ v5 ∧ v5 ≤ 9223372036854775807) :=
  ⟨_, _, _, _, _, _, (h k hk 0 (by omega)).1, (h k hk 1 (by omega)).1, (h k hk 2 (by omega)).1, (h k hk 3 (by omega)).1, (h k hk 4 (by omega)).1, (h k hk 5 (by omega)).1,
    (h k hk 0 (by omega)).2, (h k hk 1 (by omega)).2, (h k hk 2 (by omega)).2, (h k hk 3 (by omega)).2, (h k hk 4 (by omega)).2, (h k hk 5 (by omega)).2⟩
end Go.Proofs.YtfmalpnlencmbaaGreat

namespace Go.Proofs.YtfmalpnlencmbaaGreat
open Go.RowKit

theorem Ext.set {a w : World} (h : Ext a w) {p : Addr} (hb : a.heap.size ≤ p.block) (v : Value) : Ext a (w.setCell p v) := Below.setCell h hb v
/-- three cells of a variable, which may be written -/
def H3 (w : World) (b : Nat) (u v x : Value) : Prop :=
  w.cell? ⟨b, 0, none⟩ = some u ∧ w.cell? ⟨b, 1, none⟩ = some v ∧ w.cell? ⟨b, 2, none⟩ = some x ∧
  w.frozen? ⟨b, 0, none⟩ = false ∧ w.frozen? ⟨b, 1, none⟩ = false ∧ w.frozen? ⟨b, 2, none⟩ = false ∧ b < w.heap.size
theorem H3.ext {w w' : World} {b : Nat} {u v x : Value} (h : H3 w b u v x) (hx : Ext w w') : H3 w' b u v x := by
  obtain ⟨h0, h1, h2, f0, f1, f2, hb⟩ := h
  obtain ⟨hc, hf, hs⟩ := hx.lay
  refine ⟨?_, ?_, ?_, ?_, ?_, ?_, by omega⟩
  · rw [hc _ _ hb]; exact h0
  · rw [hc _ _ hb]; exact h1
  · rw [hc _ _ hb]; exact h2
  · rw [hf _ _ hb]; exact f0
  · rw [hf _ _ hb]; exact f1
  · rw [hf _ _ hb]; exact f2
theorem h3_at {w : World} {b : Nat} {u v x : Value} {T : TypeId} (h : w.heap.size = b) : H3 (w.alloc (.cells #[u, v, x] T)) b u v x := by
  subst h
  refine ⟨?_, ?_, ?_, ?_, ?_, ?_, ?_⟩ <;> simp [go_sem]
theorem H3.alloc {w : World} {b : Nat} {u v x : Value} (h : H3 w b u v x) (o : Obj) : H3 (w.alloc o) b u v x := h.ext ((Ext.refl _).alloc o)
theorem H3.drew {w : World} {b : Nat} {u v x : Value} (h : H3 w b u v x) : H3 w.drew b u v x := h.ext (Ext.refl _).drew
/-- a variable of one cell -/
def H1 (w : World) (b : Nat) (u : Value) : Prop := w.cell? ⟨b, 0, none⟩ = some u ∧ w.frozen? ⟨b, 0, none⟩ = false ∧ b < w.heap.size
theorem H1.ext {w w' : World} {b : Nat} {u : Value} (h : H1 w b u) (hx : Ext w w') : H1 w' b u := by
  obtain ⟨h0, f0, hb⟩ := h
  obtain ⟨hc, hf, hs⟩ := hx.lay
  refine ⟨?_, ?_, by omega⟩
  · rw [hc _ _ hb]; exact h0
  · rw [hf _ _ hb]; exact f0
theorem H1.alloc {w : World} {b : Nat} {u : Value} (h : H1 w b u) (o : Obj) : H1 (w.alloc o) b u := h.ext ((Ext.refl _).alloc o)
end Go.Proofs.YtfmalpnlencmbaaGreat

namespace Go.Proofs.YtfmalpnlencmbaaGreat

/-- the three limbs of a whole number, modulo 2^192 -/
def l0 (z : Int) : Nat := (z % 18446744073709551616).toNat
def l1 (z : Int) : Nat := (z / 18446744073709551616 % 18446744073709551616).toNat
def l2 (z : Int) : Nat := (z / 18446744073709551616 / 18446744073709551616 % 18446744073709551616).toNat
theorem l0_cast (z : Int) : (l0 z : Int) = z % 18446744073709551616 := by unfold l0; omega
theorem l1_cast (z : Int) : (l1 z : Int) = z / 18446744073709551616 % 18446744073709551616 := by unfold l1; omega
theorem l2_cast (z : Int) : (l2 z : Int) = z / 18446744073709551616 / 18446744073709551616 % 18446744073709551616 := by unfold l2; omega
theorem l0_lt (z : Int) : l0 z < 18446744073709551616 := by unfold l0; omega
theorem l1_lt (z : Int) : l1 z < 18446744073709551616 := by unfold l1; omega
theorem l2_lt (z : Int) : l2 z < 18446744073709551616 := by unfold l2; omega

/-- one limb of a sum -/
theorem add_step (a b : Int) (c : Int) : (a + b + c) % 18446744073709551616 = (a % 18446744073709551616 + b % 18446744073709551616 + c) % 18446744073709551616 ∧
    (a + b + c) / 18446744073709551616 = a / 18446744073709551616 + b / 18446744073709551616 + (a % 18446744073709551616 + b % 18446744073709551616 + c) / 18446744073709551616 := by omega
/-- one limb of a difference -/
def borw (x y c : Nat) : Nat := if x < y + c then 1 else 0
theorem sub_step (a b : Int) (c : Nat) (hc : c ≤ 1) (x y : Nat) (hx : (x : Int) = a % 18446744073709551616) (hy : (y : Int) = b % 18446744073709551616) :
    (a - b - c) % 18446744073709551616 = ((x + 18446744073709551616 - y - c) % 18446744073709551616 : Nat) ∧
    (a - b - c) / 18446744073709551616 = a / 18446744073709551616 - b / 18446744073709551616 - (borw x y c : Nat) := by
  unfold borw
  split <;> omega
theorem plus_limbs (a b : Int) : let c0 := (l0 a + l0 b + 0) / 18446744073709551616
    let c1 := (l1 a + l1 b + c0) / 18446744073709551616
    (l0 a + l0 b + 0) % 18446744073709551616 = l0 (a + b) ∧ (l1 a + l1 b + c0) % 18446744073709551616 = l1 (a + b) ∧ (l2 a + l2 b + c1) % 18446744073709551616 = l2 (a + b) := by
  intro c0 c1
  have h0 := add_step a b 0
  have h1 := add_step (a / 18446744073709551616) (b / 18446744073709551616) c0
  have h2 := add_step (a / 18446744073709551616 / 18446744073709551616) (b / 18446744073709551616 / 18446744073709551616) c1
  have e0 : (c0 : Int) = ((l0 a : Int) + l0 b + 0) / 18446744073709551616 := by simp [c0]
  have e1 : (c1 : Int) = ((l1 a : Int) + l1 b + c0) / 18446744073709551616 := by simp [c1]
  rw [l0_cast, l0_cast] at e0
  rw [l1_cast, l1_cast] at e1
  rw [← e0, Int.add_zero] at h0
  rw [← e1] at h1
  refine ⟨?_, ?_, ?_⟩
  · apply Int.ofNat.inj; show ((_ : Nat) : Int) = ((_ : Nat) : Int)
    rw [l0_cast, Int.natCast_emod, Int.natCast_add, Int.natCast_add, l0_cast, l0_cast]
    exact h0.1.symm
  · apply Int.ofNat.inj; show ((_ : Nat) : Int) = ((_ : Nat) : Int)
    rw [l1_cast, Int.natCast_emod, Int.natCast_add, Int.natCast_add, l1_cast, l1_cast, h0.2]
    exact h1.1.symm
  · apply Int.ofNat.inj; show ((_ : Nat) : Int) = ((_ : Nat) : Int)
    rw [l2_cast, Int.natCast_emod, Int.natCast_add, Int.natCast_add, l2_cast, l2_cast, h0.2, h1.2]
    exact h2.1.symm
theorem minus_limbs (a b : Int) : let c0 := borw (l0 a) (l0 b) 0
    let c1 := borw (l1 a) (l1 b) c0
    (l0 a + 18446744073709551616 - l0 b - 0) % 18446744073709551616 = l0 (a - b) ∧ (l1 a + 18446744073709551616 - l1 b - c0) % 18446744073709551616 = l1 (a - b) ∧ (l2 a + 18446744073709551616 - l2 b - c1) % 18446744073709551616 = l2 (a - b) := by
  intro c0 c1
  have hc0 : c0 ≤ 1 := by simp only [c0, borw]; split <;> omega
  have hc1 : c1 ≤ 1 := by simp only [c1, borw]; split <;> omega
  have h0 := sub_step a b 0 (by omega) (l0 a) (l0 b) (l0_cast _) (l0_cast _)
  have h1 := sub_step (a / 18446744073709551616) (b / 18446744073709551616) c0 hc0 (l1 a) (l1 b) (l1_cast _) (l1_cast _)
  have h2 := sub_step (a / 18446744073709551616 / 18446744073709551616) (b / 18446744073709551616 / 18446744073709551616) c1 hc1 (l2 a) (l2 b) (l2_cast _) (l2_cast _)
  rw [Int.natCast_zero, Int.sub_zero] at h0
  refine ⟨?_, ?_, ?_⟩
  · apply Int.ofNat.inj; show ((_ : Nat) : Int) = ((_ : Nat) : Int)
    rw [l0_cast]; exact h0.1.symm
  · apply Int.ofNat.inj; show ((_ : Nat) : Int) = ((_ : Nat) : Int)
    rw [l1_cast, h0.2]; exact h1.1.symm
  · apply Int.ofNat.inj; show ((_ : Nat) : Int) = ((_ : Nat) : Int)
    rw [l2_cast, h0.2, h1.2]; exact h2.1.symm
/-- one limb of a product -/
theorem mul_step (a k c : Int) : (a * k + c) % 18446744073709551616 = (a % 18446744073709551616 * k + c) % 18446744073709551616 ∧
    (a * k + c) / 18446744073709551616 = a / 18446744073709551616 * k + (a % 18446744073709551616 * k + c) / 18446744073709551616 := by
  have e : a * k = 18446744073709551616 * (a / 18446744073709551616 * k) + a % 18446744073709551616 * k := by
    rw [← Int.mul_assoc, ← Int.add_mul, Int.mul_ediv_add_emod]
  generalize a / 18446744073709551616 * k = q at *
  generalize a % 18446744073709551616 * k = r at *
  omega
def mc (x k c : Nat) : Nat := (x * k + c) / 18446744073709551616
theorem mc_lt (x k c : Nat) (hx : x < 18446744073709551616) (hk : k < 18446744073709551616) (hc : c < 18446744073709551616) : mc x k c < 18446744073709551616 := by
  have h : x * k ≤ 18446744073709551615 * 18446744073709551615 := Nat.mul_le_mul (by omega) (by omega)
  unfold mc
  generalize x * k = p at *
  omega
theorem mc_parts (x k c : Nat) :
    (x * k % 18446744073709551616 + c + 0) % 18446744073709551616 = (x * k + c) % 18446744073709551616 ∧
    x * k / 18446744073709551616 + (x * k % 18446744073709551616 + c + 0) / 18446744073709551616 = mc x k c := by
  unfold mc
  generalize x * k = p
  omega
theorem times_limbs (a : Int) (k : Nat) : let c0 := mc (l0 a) k 0
    let c1 := mc (l1 a) k c0
    (l0 a * k + 0) % 18446744073709551616 = l0 (a * k) ∧ (l1 a * k + c0) % 18446744073709551616 = l1 (a * k) ∧ (l2 a * k + c1) % 18446744073709551616 = l2 (a * k) := by
  intro c0 c1
  have h0 := mul_step a k 0
  have h1 := mul_step (a / 18446744073709551616) k c0
  have h2 := mul_step (a / 18446744073709551616 / 18446744073709551616) k c1
  have e0 : (c0 : Int) = ((l0 a : Int) * k + 0) / 18446744073709551616 := by simp [c0, mc]
  have e1 : (c1 : Int) = ((l1 a : Int) * k + c0) / 18446744073709551616 := by simp [c1, mc]
  rw [l0_cast] at e0
  rw [l1_cast] at e1
  rw [← e0, Int.add_zero] at h0
  rw [← e1] at h1
  refine ⟨?_, ?_, ?_⟩
  · apply Int.ofNat.inj; show ((_ : Nat) : Int) = ((_ : Nat) : Int)
    rw [l0_cast, Int.natCast_emod, Int.natCast_add, Int.natCast_mul, l0_cast]
    exact h0.1.symm
  · apply Int.ofNat.inj; show ((_ : Nat) : Int) = ((_ : Nat) : Int)
    rw [l1_cast, Int.natCast_emod, Int.natCast_add, Int.natCast_mul, l1_cast, h0.2]
    exact h1.1.symm
  · apply Int.ofNat.inj; show ((_ : Nat) : Int) = ((_ : Nat) : Int)
    rw [l2_cast, Int.natCast_emod, Int.natCast_add, Int.natCast_mul, l2_cast, h0.2, h1.2]
    exact h2.1.symm
end Go.Proofs.YtfmalpnlencmbaaGreat

namespace Go.Proofs.YtfmalpnlencmbaaGreat
open Go.RowKit

/-- the cells of a variable, which may be written -/
def HV (w : World) (b : Nat) (vs : List Value) : Prop :=
  b < w.heap.size ∧ ∀ j v, vs[j]? = some v → w.cell? ⟨b, j, none⟩ = some v ∧ w.frozen? ⟨b, j, none⟩ = false
theorem HV.ext {w w' : World} {b : Nat} {vs : List Value} (h : HV w b vs) (hx : Ext w w') : HV w' b vs := by
  obtain ⟨hc, hf, hs⟩ := hx.lay
  refine ⟨by have := h.1; omega, fun j v hv => ?_⟩
  obtain ⟨h1, h2⟩ := h.2 j v hv
  exact ⟨(hc _ _ h.1).trans h1, (hf _ _ h.1).trans h2⟩
theorem hv_at {w : World} {b : Nat} {vs : List Value} {T : TypeId} (h : w.heap.size = b) : HV (w.alloc (.cells vs.toArray T)) b vs := by
  subst h
  refine ⟨by simp, fun j v hv => ⟨?_, ?_⟩⟩
  · rw [World.cell?_alloc_new]
    simpa using hv
  · simp [go_sem]
theorem HV.alloc {w : World} {b : Nat} {vs : List Value} (h : HV w b vs) (o : Obj) : HV (w.alloc o) b vs := h.ext ((Ext.refl _).alloc o)
theorem HV.drew {w : World} {b : Nat} {vs : List Value} (h : HV w b vs) : HV w.drew b vs := h.ext (Ext.refl _).drew
theorem HV.far {w : World} {b g o : Nat} {vs : List Value} {y : Value} (h : HV w b vs) (hb : b ≠ g) : HV (w.setCell ⟨g, o, none⟩ y) b vs := by
  refine ⟨by simpa using h.1, fun j v hv => ?_⟩
  obtain ⟨h1, h2⟩ := h.2 j v hv
  refine ⟨?_, by simpa [go_sem] using h2⟩
  rw [World.cell?_setCell_other _ _ _ _ (by intro e; have := congrArg Addr.block e; dsimp only at this; omega)]
  exact h1
theorem HV.set {w : World} {b : Nat} {vs : List Value} (h : HV w b vs) (j : Nat) (v : Value) : HV (w.setCell ⟨b, j, none⟩ v) b (vs.set j v) := by
  refine ⟨by simpa using h.1, fun i u hu => ?_⟩
  by_cases e : i = j
  · subst e
    rw [List.getElem?_set] at hu
    simp only [if_true] at hu
    by_cases hl : i < vs.length
    · rw [if_pos hl] at hu
      obtain ⟨h1, h2⟩ := h.2 i vs[i] (List.getElem?_eq_getElem hl)
      cases hu
      exact ⟨World.cell?_setCell_same _ _ _ h1, by simpa [go_sem] using h2⟩
    · rw [if_neg hl] at hu
      cases hu
  · rw [List.getElem?_set, if_neg (fun h => e h.symm)] at hu
    obtain ⟨h1, h2⟩ := h.2 i u hu
    refine ⟨?_, by simpa [go_sem] using h2⟩
    rw [World.cell?_setCell_other _ _ _ _ (by intro x; have := congrArg Addr.off x; dsimp only at this; omega)]
    exact h1
/-- cell j of it -/
theorem HV.c {w : World} {b : Nat} {vs : List Value} (h : HV w b vs) (j : Nat) {v : Value} (hv : vs[j]? = some v) : w.cell? ⟨b, j, none⟩ = some v := (h.2 j v hv).1
theorem HV.f {w : World} {b : Nat} {vs : List Value} (h : HV w b vs) (j : Nat) {v : Value} (hv : vs[j]? = some v) : w.frozen? ⟨b, j, none⟩ = false := (h.2 j v hv).2
theorem HV.k4 {w : World} {b : Nat} {v0 v1 v2 v3 : Value} (h : HV w b [v0, v1, v2, v3]) : w.cell? ⟨b, 0, none⟩ = some v0 ∧ w.cell? ⟨b, 1, none⟩ = some v1 ∧ w.cell? ⟨b, 2, none⟩ = some v2 ∧ w.cell? ⟨b, 3, none⟩ = some v3 :=
  ⟨h.c 0 rfl, h.c 1 rfl, h.c 2 rfl, h.c 3 rfl⟩
end Go.Proofs.YtfmalpnlencmbaaGreat
