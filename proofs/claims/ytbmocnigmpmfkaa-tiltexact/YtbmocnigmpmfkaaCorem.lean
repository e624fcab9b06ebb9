/- What every walk needs, without a function of the program. -/
import Derived.Test.YtbmocnigmpmfkaaRows
import Derived.Test.YtbmocnigmpmfkaaNum2m
import Derived.Deep.QuietTactic
import Derived.BigQuiet
import Derived.Deep.RegionWith
import Derived.WalkKit
import Derived.WalkLawsBesides
import Derived.WalkSpells
namespace Go.Proofs.Ytbmocnigmpmfkaa
open Go.RowKit

def okW (v : Int) : Bool := decide (-35184372088832 < v) && decide (v < 35184372088832)
def chk (v : Int) : Int := if okW v then 0 else 1
theorem ret_int {k : IntKind} {a b : Int} (h : a = b) : Ending.returned (.int k a) = .returned (.int k b) := by rw [h]
theorem size_neg (v : Int) (h1 : -9223372036854775808 ≤ v) (h : v < 0) : IntKind.u64.wrap (wrap64 (-v)) = (v.natAbs : Int) := by
  rw [IntKind.wrap_u64]; unfold wrap64; omega
/-- Nothing that was there has turned; there may be more. -/
def Ext (w w' : World) : Prop := Below w.heap.size w w'
theorem Ext.refl (w : World) : Ext w w := Below.refl _ _
theorem Ext.size {w w' : World} (h : Ext w w') : w.heap.size ≤ w'.heap.size := Below.size h
theorem Ext.trans {a b c : World} (h : Ext a b) (k : Ext b c) : Ext a c := Below.trans h (Below.mono k h.size)
theorem Ext.drew {a w : World} (h : Ext a w) : Ext a w.drew := Below.drew h
theorem Ext.alloc {a w : World} (h : Ext a w) (o : Obj) : Ext a (w.alloc o) := Below.alloc h h.size o
theorem Ext.lay {w w' : World} (h : Ext w w') : (∀ b o, b < w.heap.size → w'.cell? ⟨b, o, none⟩ = w.cell? ⟨b, o, none⟩) ∧ (∀ b o, b < w.heap.size → w'.frozen? ⟨b, o, none⟩ = w.frozen? ⟨b, o, none⟩) ∧ w.heap.size ≤ w'.heap.size :=
  ⟨fun b o k => Below.cell (p := ⟨b, o, none⟩) h k, fun b o k => Below.frozen (p := ⟨b, o, none⟩) h k, h.size⟩
theorem ret_bool {a b : Bool} (h : a = b) : Ending.returned (.bool a) = .returned (.bool b) := by rw [h]
theorem chk_ok {a : Int} (h : chk a = 0) : okW a = true := by
  unfold chk at h; split at h
  · assumption
  · omega
theorem chk_no {a : Int} (h : ¬ chk a = 0) : okW a = false := by
  unfold chk at h; split at h
  · omega
  · rename_i h2; simpa using h2
theorem words1 {a b : Int} (h : chk a = 0) (k : chk b = 0) : true = (okW a && okW b) := by rw [chk_ok h, chk_ok k]; rfl
theorem words2 {a b : Int} (h : chk a = 0) (k : ¬ chk b = 0) : false = (okW a && okW b) := by rw [chk_ok h, chk_no k]; rfl
theorem words3 {a b : Int} (h : ¬ chk a = 0) : false = (okW a && okW b) := by rw [chk_no h]; rfl
theorem Ext.drewN {a w : World} (h : Ext a w) : ∀ n, Ext a (w.drewN n)
  | 0 => h
  | n + 1 => (Ext.drewN h n).drew
theorem ret2_ints {k l : IntKind} {a b c d : Int} (h : a = b) (g : c = d) : Ending.returned (.tuple #[.int k a, .int l c]) = .returned (.tuple #[.int k b, .int l d]) := by rw [h, g]
def dQ (hi lo y : Nat) : Int := (((hi * 18446744073709551616 + lo) / y : Nat) : Int)
def dR (hi lo y : Nat) : Int := (((hi * 18446744073709551616 + lo) % y : Nat) : Int)
/-- the relation of the loop of a step -/
def DRel (u y1 t : Int) (a b : Value) : Prop := ∃ q r : Int, a = .int .u64 q ∧ b = .int .u64 r ∧ q * y1 + r = u ∧ 0 ≤ r ∧ r < 4294967296 ∧ q ≤ 4294967297 ∧ t ≤ q
theorem step_eq {a b y1 u : Int} (h : a * y1 + b = u) : (a - 1) * y1 + (b + y1) = u := by rw [Int.sub_mul]; omega
/-- R(n / d), or 2^45 for all that is no word. -/
def nearW (n d : Nat) : Nat := if 35184372088832 ≤ n / d then 35184372088832 else Num.near n d
theorem near_eq1 (n d : Nat) (h : n % d > d - n % d) : Num.near n d = n / d + 1 := by unfold Num.near; rw [if_pos h]
theorem near_eq2 (n d : Nat) (h : ¬ n % d > d - n % d) (k : n % d = d - n % d) (j : n / d % 2 = 1) : Num.near n d = n / d + 1 := by unfold Num.near; rw [if_neg h, if_pos k, if_pos j]
theorem near_eq3 (n d : Nat) (h : ¬ n % d > d - n % d) (k : n % d = d - n % d) (j : ¬ n / d % 2 = 1) : Num.near n d = n / d := by unfold Num.near; rw [if_neg h, if_pos k, if_neg j]
theorem near_eq4 (n d : Nat) (h : ¬ n % d > d - n % d) (k : ¬ n % d = d - n % d) : Num.near n d = n / d := by unfold Num.near; rw [if_neg h, if_neg k]
theorem ret_u64 {a b : Int} (h : a = b) : Ending.returned (.int .u64 a) = .returned (.int .u64 b) := by rw [h]
theorem nearW_int (n d : Nat) : ((nearW n d : Nat) : Int) = if (35184372088832 : Int) ≤ ((n / d : Nat) : Int) then 35184372088832 else if (d : Int) - ((n % d : Nat) : Int) < ((n % d : Nat) : Int) ∨ ((n % d : Nat) : Int) = (d : Int) - ((n % d : Nat) : Int) ∧ ((n / d : Nat) : Int) % 2 = 1 then ((n / d : Nat) : Int) + 1 else ((n / d : Nat) : Int) := by
  have key : ∀ (d q r : Nat), (((if 35184372088832 ≤ q then 35184372088832 else (if r > d - r then q + 1 else if r = d - r then (if q % 2 = 1 then q + 1 else q) else q)) : Nat) : Int) = if (35184372088832 : Int) ≤ (q : Int) then 35184372088832 else if (d : Int) - (r : Int) < (r : Int) ∨ (r : Int) = (d : Int) - (r : Int) ∧ (q : Int) % 2 = 1 then (q : Int) + 1 else (q : Int) := by
    intro d q r
    grind
  exact key d (n / d) (n % d)
theorem Ext.cells2 {w w' : World} {u v : Value} {T : TypeId} (h : Ext (w.alloc (.cells #[u, v] T)) w') : w'.cell? ⟨w.heap.size, 0, none⟩ = some u ∧ w'.cell? ⟨w.heap.size, 1, none⟩ = some v := by
  obtain ⟨hc, _, _⟩ := h.lay
  constructor
  · rw [hc _ _ (by simp)]; simp [go_sem]
  · rw [hc _ _ (by simp)]; simp [go_sem]
/-- the quotient of a * b and d, without its sign -/
def mag (a b d : Int) : Nat := nearW (a.natAbs * b.natAbs) d.natAbs
theorem mag_le (a b d : Int) : mag a b d ≤ 35184372088832 := by
  unfold mag nearW Num.near
  grind
def neg3 (a b d : Int) : Bool := (decide (a < 0) != decide (b < 0)) != decide (d < 0)
def signed (n : Bool) (m : Int) : Int := if n then -m else m
def fitR (v : Int) : Int × Int := if okW v then (v, 0) else (0, 2)
def shareR (a b d : Int) : Int × Int := if d == 0 then (0, 3) else if okW (mag a b d) then (signed (neg3 a b d) (mag a b d), 0) else (0, 2)
theorem okW_bounds {v : Int} (h : okW v = true) : -35184372088832 < v ∧ v < 35184372088832 := by
  unfold okW at h
  simpa using h
def sumV (a b : Int) : Int × Int := fitR (a + b)
def diffV (a b : Int) : Int × Int := fitR (a - b)
def prodV (a b : Int) : Int × Int := shareR a b 1073741824
def quoV (a b : Int) : Int × Int := shareR a 1073741824 b
/-- the whole: refused as malformed if one is no word -/
def addR (a b : Int) : Int × Int := if okW a && okW b then sumV a b else (0, 1)
/-- the whole: refused as malformed if one is no word -/
def subR (a b : Int) : Int × Int := if okW a && okW b then diffV a b else (0, 1)
/-- the whole: refused as malformed if one is no word -/
def mulR (a b : Int) : Int × Int := if okW a && okW b then prodV a b else (0, 1)
/-- the whole: refused as malformed if one is no word -/
def divR (a b : Int) : Int × Int := if okW a && okW b then quoV a b else (0, 1)
theorem mul_seven : mulR 1073741824 7 = (7, 0) := by decide +kernel
/-- a list of Two: cell j of entry i holds the number Z i j -/
def Twos (w : World) (b off len : Nat) (Z : Nat → Nat → Int) : Prop :=
  ∀ i, i < len → ∀ j, j < 6 → w.cell? ⟨b, off + i * 6 + j, none⟩ = some (.int .i64 (Z i j)) ∧ -9223372036854775808 ≤ Z i j ∧ Z i j ≤ 9223372036854775807
theorem cell_lt {w : World} {p : Addr} {v : Value} (h : w.cell? p = some v) : p.block < w.heap.size := by
  apply Nat.lt_of_not_le
  intro hle
  have : w.heap[p.block]? = none := Array.getElem?_eq_none hle
  simp [World.cell?, this] at h
theorem Twos.ext {w w' : World} {b off len : Nat} {Z : Nat → Nat → Int} (h : Twos w b off len Z) (hx : Ext w w') : Twos w' b off len Z := by
  intro i hi j hj
  obtain ⟨h1, h2⟩ := h i hi j hj
  refine ⟨?_, h2⟩
  rw [(hx.lay).1 b _ (cell_lt h1)]
  exact h1
theorem Twos.row {w : World} {b off len : Nat} {Z : Nat → Nat → Int} (h : Twos w b off len Z) {k : Nat} (hk : k < len) : ∃ v0 v1 v2 v3 v4 v5 : Int,
    w.cell? ⟨b, off + k * 6, none⟩ = some (.int .i64 v0) ∧ w.cell? ⟨b, off + k * 6 + 1, none⟩ = some (.int .i64 v1) ∧ w.cell? ⟨b, off + k * 6 + 2, none⟩ = some (.int .i64 v2) ∧
    w.cell? ⟨b, off + k * 6 + 3, none⟩ = some (.int .i64 v3) ∧ w.cell? ⟨b, off + k * 6 + 4, none⟩ = some (.int .i64 v4) ∧ w.cell? ⟨b, off + k * 6 + 5, none⟩ = some (.int .i64 v5) ∧
    (-9223372036854775808 ≤ v0 ∧ v0 ≤ 9223372036854775807) ∧ (-9223372036854775808 ≤ v1 ∧ v1 ≤ 9223372036854775807) ∧ (-9223372036854775808 ≤ v2 ∧ v2 ≤ 9223372036854775807) ∧
    (-9223372036854775808 ≤ v3 ∧ v3 ≤ 9223372036854775807) ∧ (-9223372036854775808 ≤ v4 ∧ v4 ≤ 9223372036854775807) ∧ (-9223372036854775808 ≤ v5 ∧ v5 ≤ 9223372036854775807) :=
  ⟨_, _, _, _, _, _, (h k hk 0 (by omega)).1, (h k hk 1 (by omega)).1, (h k hk 2 (by omega)).1, (h k hk 3 (by omega)).1, (h k hk 4 (by omega)).1, (h k hk 5 (by omega)).1,
    (h k hk 0 (by omega)).2, (h k hk 1 (by omega)).2, (h k hk 2 (by omega)).2, (h k hk 3 (by omega)).2, (h k hk 4 (by omega)).2, (h k hk 5 (by omega)).2⟩
theorem Ext.cells6 {w w' : World} {u0 u1 u2 u3 u4 u5 : Value} {T : TypeId} (h : Ext (w.alloc (.cells #[u0, u1, u2, u3, u4, u5] T)) w') :
    w'.cell? ⟨w.heap.size, 0, none⟩ = some u0 ∧ w'.cell? ⟨w.heap.size, 1, none⟩ = some u1 ∧ w'.cell? ⟨w.heap.size, 2, none⟩ = some u2 ∧
    w'.cell? ⟨w.heap.size, 3, none⟩ = some u3 ∧ w'.cell? ⟨w.heap.size, 4, none⟩ = some u4 ∧ w'.cell? ⟨w.heap.size, 5, none⟩ = some u5 := by
  obtain ⟨hc, _, _⟩ := h.lay
  refine ⟨?_, ?_, ?_, ?_, ?_, ?_⟩ <;> (rw [hc _ _ (by simp)]; simp [go_sem])
end Go.Proofs.Ytbmocnigmpmfkaa
