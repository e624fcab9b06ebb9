/- What walks over plain states need. -/
import Derived.Test.YtleiiiagdkcckaaRows
import Derived.Deep.QuietTactic
import Derived.BigQuiet
import Derived.BigRegion
import Derived.Deep.RegionWith
import Derived.Deep.RegionHeld
import Derived.Deep.RegionHeld3
import Derived.Deep.MidRow
import Derived.Deep.Cut
import Derived.Deep.DeepCutAuto
import Derived.WalkKit
import Derived.WalkLawsBesides
import Derived.WalkSpells
namespace Go.Proofs.Ytleiiiagdkcckaa
open Go.RowKit

def okW (v : Int) : Bool := decide (-35184372088832 < v) && decide (v < 35184372088832)
def chk (v : Int) : Int := if okW v then 0 else 1
theorem ret_int {k : IntKind} {a b : Int} (h : a = b) : Ending.returned (.int k a) = .returned (.int k b) := by rw [h]
/-- Nothing that was there has turned; there may be more. -/
def Ext (w w' : World) : Prop := Below w.heap.size w w'
theorem Ext.refl (w : World) : Ext w w := Below.refl _ _
theorem Ext.size {w w' : World} (h : Ext w w') : w.heap.size ≤ w'.heap.size := Below.size h
theorem Ext.trans {a b c : World} (h : Ext a b) (k : Ext b c) : Ext a c := Below.trans h (Below.mono k h.size)
theorem Ext.drew {a w : World} (h : Ext a w) : Ext a w.drew := Below.drew h
theorem Ext.alloc {a w : World} (h : Ext a w) (o : Obj) : Ext a (w.alloc o) := Below.alloc h h.size o
theorem Ext.lay {w w' : World} (h : Ext w w') : (∀ b o, b < w.heap.size → w'.cell? ⟨b, o, none⟩ = w.cell? ⟨b, o, none⟩) ∧ (∀ b o, b < w.heap.size → w'.frozen? ⟨b, o, none⟩ = w.frozen? ⟨b, o, none⟩) ∧ w.heap.size ≤ w'.heap.size :=
  ⟨fun b o k => Below.cell (p := ⟨b, o, none⟩) h k, fun b o k => Below.frozen (p := ⟨b, o, none⟩) h k, h.size⟩
theorem ret_bool {a b : Bool} (h : a = b) : Ending.returned (.bool a) = .returned (.bool b) := by rw [h]
theorem chk_ok {a : Int} (h : chk a = 0) : okW a = true := by
  unfold chk at h; split at h
  · assumption
  · omega
theorem chk_no {a : Int} (h : ¬ chk a = 0) : okW a = false := by
  unfold chk at h; split at h
  · omega
  · rename_i h2; simpa using h2
theorem words1 {a b : Int} (h : chk a = 0) (k : chk b = 0) : true = (okW a && okW b) := by rw [chk_ok h, chk_ok k]; rfl
theorem words2 {a b : Int} (h : chk a = 0) (k : ¬ chk b = 0) : false = (okW a && okW b) := by rw [chk_ok h, chk_no k]; rfl
theorem words3 {a b : Int} (h : ¬ chk a = 0) : false = (okW a && okW b) := by rw [chk_no h]; rfl
theorem Ext.drewN {a w : World} (h : Ext a w) : ∀ n, Ext a (w.drewN n)
  | 0 => h
  | n + 1 => (Ext.drewN h n).drew
theorem ret2_ints {k l : IntKind} {a b c d : Int} (h : a = b) (g : c = d) : Ending.returned (.tuple #[.int k a, .int l c]) = .returned (.tuple #[.int k b, .int l d]) := by rw [h, g]
theorem cell_lt {w : World} {p : Addr} {v : Value} (h : w.cell? p = some v) : p.block < w.heap.size := by
  apply Nat.lt_of_not_le
  intro hle
  have : w.heap[p.block]? = none := Array.getElem?_eq_none hle
  simp [World.cell?, this] at h
theorem Ext.set {a w : World} (h : Ext a w) {p : Addr} (hb : a.heap.size ≤ p.block) (v : Value) : Ext a (w.setCell p v) := Below.setCell h hb v
theorem wrap_le (n : Int) (h1 : -9223372036854775808 ≤ n) (h2 : n ≤ 9223372036854775807) : wrap64 n = n := by unfold wrap64; omega
/-- the cells of a variable, which may be written -/
def HV (w : World) (b : Nat) (vs : List Value) : Prop :=
  b < w.heap.size ∧ ∀ j v, vs[j]? = some v → w.cell? ⟨b, j, none⟩ = some v ∧ w.frozen? ⟨b, j, none⟩ = false
theorem HV.ext {w w' : World} {b : Nat} {vs : List Value} (h : HV w b vs) (hx : Ext w w') : HV w' b vs := by
  obtain ⟨hc, hf, hs⟩ := hx.lay
  refine ⟨by have := h.1; omega, fun j v hv => ?_⟩
  obtain ⟨h1, h2⟩ := h.2 j v hv
  exact ⟨(hc _ _ h.1).trans h1, (hf _ _ h.1).trans h2⟩
theorem hv_at {w : World} {b : Nat} {vs : List Value} {T : TypeId} (h : w.heap.size = b) : HV (w.alloc (.cells vs.toArray T)) b vs := by
  subst h
  refine ⟨by simp, fun j v hv => ⟨?_, ?_⟩⟩
  · rw [World.cell?_alloc_new]
    simpa using hv
  · simp [go_sem]
theorem HV.alloc {w : World} {b : Nat} {vs : List Value} (h : HV w b vs) (o : Obj) : HV (w.alloc o) b vs := h.ext ((Ext.refl _).alloc o)
theorem HV.drew {w : World} {b : Nat} {vs : List Value} (h : HV w b vs) : HV w.drew b vs := h.ext (Ext.refl _).drew
theorem HV.far {w : World} {b g o : Nat} {vs : List Value} {y : Value} (h : HV w b vs) (hb : b ≠ g) : HV (w.setCell ⟨g, o, none⟩ y) b vs := by
  refine ⟨by simpa using h.1, fun j v hv => ?_⟩
  obtain ⟨h1, h2⟩ := h.2 j v hv
  refine ⟨?_, by simpa [go_sem] using h2⟩
  rw [World.cell?_setCell_other _ _ _ _ (by intro e; have := congrArg Addr.block e; dsimp only at this; omega)]
  exact h1
theorem HV.set {w : World} {b : Nat} {vs : List Value} (h : HV w b vs) (j : Nat) (v : Value) : HV (w.setCell ⟨b, j, none⟩ v) b (vs.set j v) := by
  refine ⟨by simpa using h.1, fun i u hu => ?_⟩
  by_cases e : i = j
  · subst e
    rw [List.getElem?_set] at hu
    simp only [if_true] at hu
    by_cases hl : i < vs.length
    · rw [if_pos hl] at hu
      obtain ⟨h1, h2⟩ := h.2 i vs[i] (List.getElem?_eq_getElem hl)
      cases hu
      exact ⟨World.cell?_setCell_same _ _ _ h1, by simpa [go_sem] using h2⟩
    · rw [if_neg hl] at hu
      cases hu
  · rw [List.getElem?_set, if_neg (fun h => e h.symm)] at hu
    obtain ⟨h1, h2⟩ := h.2 i u hu
    refine ⟨?_, by simpa [go_sem] using h2⟩
    rw [World.cell?_setCell_other _ _ _ _ (by intro x; have := congrArg Addr.off x; dsimp only at this; omega)]
    exact h1
/-- cell j of it -/
theorem HV.c {w : World} {b : Nat} {vs : List Value} (h : HV w b vs) (j : Nat) {v : Value} (hv : vs[j]? = some v) : w.cell? ⟨b, j, none⟩ = some v := (h.2 j v hv).1
theorem HV.f {w : World} {b : Nat} {vs : List Value} (h : HV w b vs) (j : Nat) {v : Value} (hv : vs[j]? = some v) : w.frozen? ⟨b, j, none⟩ = false := (h.2 j v hv).2
/-- its cells from o on -/
theorem HV.rng {w : World} {b : Nat} {vs : List Value} (h : HV w b vs) (o : Nat) : w.rangeAt b o (vs.drop o) := fun j v hv => by
  rw [List.getElem?_drop] at hv
  exact h.c (o + j) hv
theorem HV.cells1 {w : World} {b : Nat} {v : Value} (h : HV w b [v]) : w.cell? ⟨b, 0, none⟩ = some v ∧ w.frozen? ⟨b, 0, none⟩ = false := h.2 0 _ rfl
theorem HV.k3 {w : World} {b : Nat} {v0 v1 v2 : Value} (h : HV w b [v0, v1, v2]) : w.cell? ⟨b, 0, none⟩ = some v0 ∧ w.cell? ⟨b, 1, none⟩ = some v1 ∧ w.cell? ⟨b, 2, none⟩ = some v2 :=
  ⟨h.c 0 rfl, h.c 1 rfl, h.c 2 rfl⟩
theorem HV.z3 {w : World} {b : Nat} {v0 v1 v2 : Value} (h : HV w b [v0, v1, v2]) : w.frozen? ⟨b, 0, none⟩ = false ∧ w.frozen? ⟨b, 1, none⟩ = false ∧ w.frozen? ⟨b, 2, none⟩ = false :=
  ⟨h.f 0 rfl, h.f 1 rfl, h.f 2 rfl⟩
theorem HV.k4 {w : World} {b : Nat} {v0 v1 v2 v3 : Value} (h : HV w b [v0, v1, v2, v3]) : w.cell? ⟨b, 0, none⟩ = some v0 ∧ w.cell? ⟨b, 1, none⟩ = some v1 ∧ w.cell? ⟨b, 2, none⟩ = some v2 ∧ w.cell? ⟨b, 3, none⟩ = some v3 :=
  ⟨h.c 0 rfl, h.c 1 rfl, h.c 2 rfl, h.c 3 rfl⟩
theorem HV.z4 {w : World} {b : Nat} {v0 v1 v2 v3 : Value} (h : HV w b [v0, v1, v2, v3]) : w.frozen? ⟨b, 0, none⟩ = false ∧ w.frozen? ⟨b, 1, none⟩ = false ∧ w.frozen? ⟨b, 2, none⟩ = false ∧ w.frozen? ⟨b, 3, none⟩ = false :=
  ⟨h.f 0 rfl, h.f 1 rfl, h.f 2 rfl, h.f 3 rfl⟩
set_option maxHeartbeats 400000 in
theorem check_any (v : Int) (w : World) :
    Calls Try.prog 20 #[.int .i64 v] w fun e w' => e = .returned (.int .i64 (chk v)) ∧ w' = w := by
  by_cases h1 : v ≤ -35184372088832
  · have e1 : chk v = 1 := by unfold chk okW; rw [if_neg]; simp; omega
    rw [e1]
    go_enter Try.func20, Try.ntmps20
    go_wp2
    go_ret
    exact ⟨rfl, rfl⟩
  · by_cases h2 : 35184372088832 ≤ v
    · have e1 : chk v = 1 := by unfold chk okW; rw [if_neg]; simp; omega
      rw [e1]
      go_enter Try.func20, Try.ntmps20
      go_wp2
      go_ret
      exact ⟨rfl, rfl⟩
    · have e1 : chk v = 0 := by unfold chk okW; rw [if_pos]; simp; omega
      rw [e1]
      go_enter Try.func20, Try.ntmps20
      go_wp2
      go_ret
      exact ⟨rfl, rfl⟩

set_option maxHeartbeats 400000 in
theorem may_any (v : Int) (w : World) :
    Calls Try.prog 14 #[.int .i64 v] w fun e w' => e = .returned (.bool (okW v)) ∧ w' = w := by
  by_cases h1 : -35184372088832 < v
  · by_cases h2 : v < 35184372088832
    · have e1 : Hid (true = okW v) := by show true = okW v; unfold okW; simp; omega
      go_enter Try.func14, Try.ntmps14
      go_wp2
      go_ret
      exact ⟨ret_bool (by rw [← e1.out]), rfl⟩
    · have e1 : Hid (false = okW v) := by show false = okW v; unfold okW; simp; omega
      go_enter Try.func14, Try.ntmps14
      go_wp2
      go_ret
      exact ⟨ret_bool (by rw [← e1.out]), rfl⟩
  · have e1 : Hid (false = okW v) := by show false = okW v; unfold okW; simp; omega
    go_enter Try.func14, Try.ntmps14
    go_wp2
    go_ret
    exact ⟨ret_bool (by rw [← e1.out]), rfl⟩
/-- a list of things of n numbers each: cell j of entry i holds the number Z i j -/
def NL (n : Nat) (w : World) (b off len : Nat) (Z : Nat → Nat → Int) : Prop :=
  ∀ i, i < len → ∀ j, j < n → w.cell? ⟨b, off + i * n + j, none⟩ = some (.int .i64 (Z i j)) ∧ -9223372036854775808 ≤ Z i j ∧ Z i j ≤ 9223372036854775807
theorem NL.ext {n : Nat} {w w' : World} {b off len : Nat} {Z : Nat → Nat → Int} (h : NL n w b off len Z) (hx : Ext w w') : NL n w' b off len Z := by
  intro i hi j hj
  obtain ⟨h1, h2⟩ := h i hi j hj
  refine ⟨?_, h2⟩
  rw [(hx.lay).1 b _ (cell_lt h1)]
  exact h1
theorem NL.blk {n : Nat} {w : World} {b off len : Nat} {Z : Nat → Nat → Int} (h : NL n w b off len Z) {k : Nat} (hk : k < len) (hn : 0 < n) : b < w.heap.size := cell_lt (h k hk 0 hn).1
/-- a bool, or a number that a word of 64 bits may hold -/
def kd (b : Bool) (v : Value) : Prop := if b then ∃ x : Bool, v = .bool x else ∃ m : Int, v = .int .i64 m ∧ -9223372036854775808 ≤ m ∧ m ≤ 9223372036854775807
/-- a list of things of n cells each, of kinds k -/
def ML (n : Nat) (k : Nat → Bool) (w : World) (b off len : Nat) (C : Nat → Nat → Value) : Prop :=
  ∀ i, i < len → ∀ j, j < n → w.cell? ⟨b, off + i * n + j, none⟩ = some (C i j) ∧ kd (k j) (C i j)
theorem ML.ext {n : Nat} {k : Nat → Bool} {w w' : World} {b off len : Nat} {C : Nat → Nat → Value} (h : ML n k w b off len C) (hx : Ext w w') : ML n k w' b off len C := by
  intro i hi j hj
  obtain ⟨h1, h2⟩ := h i hi j hj
  refine ⟨?_, h2⟩
  rw [(hx.lay).1 b _ (cell_lt h1)]
  exact h1
theorem ML.num {n : Nat} {k : Nat → Bool} {w : World} {b off len : Nat} {C : Nat → Nat → Value} (h : ML n k w b off len C) {i : Nat} (hi : i < len) {j : Nat} (hj : j < n) (hk : k j = false) : ∃ m : Int, w.cell? ⟨b, off + i * n + j, none⟩ = some (.int .i64 m) ∧ -9223372036854775808 ≤ m ∧ m ≤ 9223372036854775807 := by
  obtain ⟨h1, h2⟩ := h i hi j hj
  unfold kd at h2
  rw [hk, if_neg (by simp)] at h2
  obtain ⟨m, e, hb⟩ := h2
  exact ⟨m, by rw [h1, e], hb⟩
theorem ML.bool {n : Nat} {k : Nat → Bool} {w : World} {b off len : Nat} {C : Nat → Nat → Value} (h : ML n k w b off len C) {i : Nat} (hi : i < len) {j : Nat} (hj : j < n) (hk : k j = true) : ∃ x : Bool, w.cell? ⟨b, off + i * n + j, none⟩ = some (.bool x) := by
  obtain ⟨h1, h2⟩ := h i hi j hj
  unfold kd at h2
  rw [hk, if_pos rfl] at h2
  obtain ⟨m, e⟩ := h2
  exact ⟨m, by rw [h1, e]⟩
end Go.Proofs.Ytleiiiagdkcckaa
