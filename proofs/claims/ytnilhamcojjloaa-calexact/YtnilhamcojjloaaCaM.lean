/- vec.Check, package cal, and what the statements of layer 10 share: Hv V0 V1 V2 V2b V6d Q0 Q1b Ca0 to Ca6 in one text. -/
import Derived.Test.YtnilhamcojjloaaW0
import Derived.Deep.MidRow
import Derived.Test.YtnilhamcojjloaaW4
import Derived.Test.YtnilhamcojjloaaWS
import Derived.Test.YtnilhamcojjloaaLeaf
import Derived.Deep.RegionHeld
import Derived.Deep.RegionHeld3
import Derived.Deep.Cut
import Derived.Deep.DeepCutAuto
import Derived.Test.YtnilhamcojjloaaMay
import Derived.Test.YtnilhamcojjloaaNearNum
namespace Go.Proofs.Ytnilhamcojjloaa
open Go.RowKit Go.Shelf
/-! Hv -/

/-- the cells of a variable, which may be written -/
def HV (w : World) (b : Nat) (vs : List Value) : Prop :=
  b < w.heap.size ∧ ∀ j v, vs[j]? = some v → w.cell? ⟨b, j, none⟩ = some v ∧ w.frozen? ⟨b, j, none⟩ = false
theorem HV.ext {w w' : World} {b : Nat} {vs : List Value} (h : HV w b vs) (hx : Ext w w') : HV w' b vs := by
  obtain ⟨hc, hf, hs⟩ := hx.lay
  refine ⟨by have := h.1; omega, fun j v hv => ?_⟩
  obtain ⟨h1, h2⟩ := h.2 j v hv
  exact ⟨(hc _ _ h.1).trans h1, (hf _ _ h.1).trans h2⟩
theorem hv_at {w : World} {b : Nat} {vs : List Value} {T : TypeId} (h : w.heap.size = b) : HV (w.alloc (.cells vs.toArray T)) b vs := by
  subst h
  refine ⟨by simp, fun j v hv => ⟨?_, ?_⟩⟩
  · rw [World.cell?_alloc_new]
    simpa using hv
  · simp [go_sem]
theorem HV.alloc {w : World} {b : Nat} {vs : List Value} (h : HV w b vs) (o : Obj) : HV (w.alloc o) b vs := h.ext ((Ext.refl _).alloc o)
theorem HV.drew {w : World} {b : Nat} {vs : List Value} (h : HV w b vs) : HV w.drew b vs := h.ext (Ext.refl _).drew
theorem HV.far {w : World} {b g o : Nat} {vs : List Value} {y : Value} (h : HV w b vs) (hb : b ≠ g) : HV (w.setCell ⟨g, o, none⟩ y) b vs := by
  refine ⟨by simpa using h.1, fun j v hv => ?_⟩
  obtain ⟨h1, h2⟩ := h.2 j v hv
  refine ⟨?_, by simpa [go_sem] using h2⟩
  rw [World.cell?_setCell_other _ _ _ _ (by intro e; have := congrArg Addr.block e; dsimp only at this; omega)]
  exact h1
theorem HV.set {w : World} {b : Nat} {vs : List Value} (h : HV w b vs) (j : Nat) (v : Value) : HV (w.setCell ⟨b, j, none⟩ v) b (vs.set j v) := by
  refine ⟨by simpa using h.1, fun i u hu => ?_⟩
  by_cases e : i = j
  · subst e
    rw [List.getElem?_set] at hu
    simp only [if_true] at hu
    by_cases hl : i < vs.length
    · rw [if_pos hl] at hu
      obtain ⟨h1, h2⟩ := h.2 i vs[i] (List.getElem?_eq_getElem hl)
      cases hu
      exact ⟨World.cell?_setCell_same _ _ _ h1, by simpa [go_sem] using h2⟩
    · rw [if_neg hl] at hu
      cases hu
  · rw [List.getElem?_set, if_neg (fun h => e h.symm)] at hu
    obtain ⟨h1, h2⟩ := h.2 i u hu
    refine ⟨?_, by simpa [go_sem] using h2⟩
    rw [World.cell?_setCell_other _ _ _ _ (by intro x; have := congrArg Addr.off x; dsimp only at this; omega)]
    exact h1
/-- cell j of it -/
theorem HV.c {w : World} {b : Nat} {vs : List Value} (h : HV w b vs) (j : Nat) {v : Value} (hv : vs[j]? = some v) : w.cell? ⟨b, j, none⟩ = some v := (h.2 j v hv).1
theorem HV.f {w : World} {b : Nat} {vs : List Value} (h : HV w b vs) (j : Nat) {v : Value} (hv : vs[j]? = some v) : w.frozen? ⟨b, j, none⟩ = false := (h.2 j v hv).2
/-- its cells from o on -/
theorem HV.rng {w : World} {b : Nat} {vs : List Value} (h : HV w b vs) (o : Nat) : w.rangeAt b o (vs.drop o) := fun j v hv => by
  rw [List.getElem?_drop] at hv
  exact h.c (o + j) hv
theorem HV.cells1 {w : World} {b : Nat} {v : Value} (h : HV w b [v]) : w.cell? ⟨b, 0, none⟩ = some v ∧ w.frozen? ⟨b, 0, none⟩ = false := h.2 0 _ rfl
theorem HV.k3 {w : World} {b : Nat} {v0 v1 v2 : Value} (h : HV w b [v0, v1, v2]) : w.cell? ⟨b, 0, none⟩ = some v0 ∧ w.cell? ⟨b, 1, none⟩ = some v1 ∧ w.cell? ⟨b, 2, none⟩ = some v2 :=
  ⟨h.c 0 rfl, h.c 1 rfl, h.c 2 rfl⟩
theorem HV.z3 {w : World} {b : Nat} {v0 v1 v2 : Value} (h : HV w b [v0, v1, v2]) : w.frozen? ⟨b, 0, none⟩ = false ∧ w.frozen? ⟨b, 1, none⟩ = false ∧ w.frozen? ⟨b, 2, none⟩ = false :=
  ⟨h.f 0 rfl, h.f 1 rfl, h.f 2 rfl⟩
theorem HV.k4 {w : World} {b : Nat} {v0 v1 v2 v3 : Value} (h : HV w b [v0, v1, v2, v3]) : w.cell? ⟨b, 0, none⟩ = some v0 ∧ w.cell? ⟨b, 1, none⟩ = some v1 ∧ w.cell? ⟨b, 2, none⟩ = some v2 ∧ w.cell? ⟨b, 3, none⟩ = some v3 :=
  ⟨h.c 0 rfl, h.c 1 rfl, h.c 2 rfl, h.c 3 rfl⟩
theorem HV.z4 {w : World} {b : Nat} {v0 v1 v2 v3 : Value} (h : HV w b [v0, v1, v2, v3]) : w.frozen? ⟨b, 0, none⟩ = false ∧ w.frozen? ⟨b, 1, none⟩ = false ∧ w.frozen? ⟨b, 2, none⟩ = false ∧ w.frozen? ⟨b, 3, none⟩ = false :=
  ⟨h.f 0 rfl, h.f 1 rfl, h.f 2 rfl, h.f 3 rfl⟩
theorem HV.k9 {w : World} {b : Nat} {v0 v1 v2 v3 v4 v5 v6 v7 v8 : Value} (h : HV w b [v0, v1, v2, v3, v4, v5, v6, v7, v8]) : w.cell? ⟨b, 0, none⟩ = some v0 ∧ w.cell? ⟨b, 1, none⟩ = some v1 ∧ w.cell? ⟨b, 2, none⟩ = some v2 ∧ w.cell? ⟨b, 3, none⟩ = some v3 ∧ w.cell? ⟨b, 4, none⟩ = some v4 ∧ w.cell? ⟨b, 5, none⟩ = some v5 ∧ w.cell? ⟨b, 6, none⟩ = some v6 ∧ w.cell? ⟨b, 7, none⟩ = some v7 ∧ w.cell? ⟨b, 8, none⟩ = some v8 :=
  ⟨h.c 0 rfl, h.c 1 rfl, h.c 2 rfl, h.c 3 rfl, h.c 4 rfl, h.c 5 rfl, h.c 6 rfl, h.c 7 rfl, h.c 8 rfl⟩
theorem HV.z9 {w : World} {b : Nat} {v0 v1 v2 v3 v4 v5 v6 v7 v8 : Value} (h : HV w b [v0, v1, v2, v3, v4, v5, v6, v7, v8]) : w.frozen? ⟨b, 0, none⟩ = false ∧ w.frozen? ⟨b, 1, none⟩ = false ∧ w.frozen? ⟨b, 2, none⟩ = false ∧ w.frozen? ⟨b, 3, none⟩ = false ∧ w.frozen? ⟨b, 4, none⟩ = false ∧ w.frozen? ⟨b, 5, none⟩ = false ∧ w.frozen? ⟨b, 6, none⟩ = false ∧ w.frozen? ⟨b, 7, none⟩ = false ∧ w.frozen? ⟨b, 8, none⟩ = false :=
  ⟨h.f 0 rfl, h.f 1 rfl, h.f 2 rfl, h.f 3 rfl, h.f 4 rfl, h.f 5 rfl, h.f 6 rfl, h.f 7 rfl, h.f 8 rfl⟩
theorem HV.k16 {w : World} {b : Nat} {v0 v1 v2 v3 v4 v5 v6 v7 v8 v9 v10 v11 v12 v13 v14 v15 : Value} (h : HV w b [v0, v1, v2, v3, v4, v5, v6, v7, v8, v9, v10, v11, v12, v13, v14, v15]) : w.cell? ⟨b, 0, none⟩ = some v0 ∧ w.cell? ⟨b, 1, none⟩ = some v1 ∧ w.cell? ⟨b, 2, none⟩ = some v2 ∧ w.cell? ⟨b, 3, none⟩ = some v3 ∧ w.cell? ⟨b, 4, none⟩ = some v4 ∧ w.cell? ⟨b, 5, none⟩ = some v5 ∧ w.cell? ⟨b, 6, none⟩ = some v6 ∧ w.cell? ⟨b, 7, none⟩ = some v7 ∧ w.cell? ⟨b, 8, none⟩ = some v8 ∧ w.cell? ⟨b, 9, none⟩ = some v9 ∧ w.cell? ⟨b, 10, none⟩ = some v10 ∧ w.cell? ⟨b, 11, none⟩ = some v11 ∧ w.cell? ⟨b, 12, none⟩ = some v12 ∧ w.cell? ⟨b, 13, none⟩ = some v13 ∧ w.cell? ⟨b, 14, none⟩ = some v14 ∧ w.cell? ⟨b, 15, none⟩ = some v15 :=
  ⟨h.c 0 rfl, h.c 1 rfl, h.c 2 rfl, h.c 3 rfl, h.c 4 rfl, h.c 5 rfl, h.c 6 rfl, h.c 7 rfl, h.c 8 rfl, h.c 9 rfl, h.c 10 rfl, h.c 11 rfl, h.c 12 rfl, h.c 13 rfl, h.c 14 rfl, h.c 15 rfl⟩
theorem HV.z16 {w : World} {b : Nat} {v0 v1 v2 v3 v4 v5 v6 v7 v8 v9 v10 v11 v12 v13 v14 v15 : Value} (h : HV w b [v0, v1, v2, v3, v4, v5, v6, v7, v8, v9, v10, v11, v12, v13, v14, v15]) : w.frozen? ⟨b, 0, none⟩ = false ∧ w.frozen? ⟨b, 1, none⟩ = false ∧ w.frozen? ⟨b, 2, none⟩ = false ∧ w.frozen? ⟨b, 3, none⟩ = false ∧ w.frozen? ⟨b, 4, none⟩ = false ∧ w.frozen? ⟨b, 5, none⟩ = false ∧ w.frozen? ⟨b, 6, none⟩ = false ∧ w.frozen? ⟨b, 7, none⟩ = false ∧ w.frozen? ⟨b, 8, none⟩ = false ∧ w.frozen? ⟨b, 9, none⟩ = false ∧ w.frozen? ⟨b, 10, none⟩ = false ∧ w.frozen? ⟨b, 11, none⟩ = false ∧ w.frozen? ⟨b, 12, none⟩ = false ∧ w.frozen? ⟨b, 13, none⟩ = false ∧ w.frozen? ⟨b, 14, none⟩ = false ∧ w.frozen? ⟨b, 15, none⟩ = false :=
  ⟨h.f 0 rfl, h.f 1 rfl, h.f 2 rfl, h.f 3 rfl, h.f 4 rfl, h.f 5 rfl, h.f 6 rfl, h.f 7 rfl, h.f 8 rfl, h.f 9 rfl, h.f 10 rfl, h.f 11 rfl, h.f 12 rfl, h.f 13 rfl, h.f 14 rfl, h.f 15 rfl⟩
theorem HV.k20 {w : World} {b : Nat} {v0 v1 v2 v3 v4 v5 v6 v7 v8 v9 v10 v11 v12 v13 v14 v15 v16 v17 v18 v19 : Value} (h : HV w b [v0, v1, v2, v3, v4, v5, v6, v7, v8, v9, v10, v11, v12, v13, v14, v15, v16, v17, v18, v19]) : w.cell? ⟨b, 0, none⟩ = some v0 ∧ w.cell? ⟨b, 1, none⟩ = some v1 ∧ w.cell? ⟨b, 2, none⟩ = some v2 ∧ w.cell? ⟨b, 3, none⟩ = some v3 ∧ w.cell? ⟨b, 4, none⟩ = some v4 ∧ w.cell? ⟨b, 5, none⟩ = some v5 ∧ w.cell? ⟨b, 6, none⟩ = some v6 ∧ w.cell? ⟨b, 7, none⟩ = some v7 ∧ w.cell? ⟨b, 8, none⟩ = some v8 ∧ w.cell? ⟨b, 9, none⟩ = some v9 ∧ w.cell? ⟨b, 10, none⟩ = some v10 ∧ w.cell? ⟨b, 11, none⟩ = some v11 ∧ w.cell? ⟨b, 12, none⟩ = some v12 ∧ w.cell? ⟨b, 13, none⟩ = some v13 ∧ w.cell? ⟨b, 14, none⟩ = some v14 ∧ w.cell? ⟨b, 15, none⟩ = some v15 ∧ w.cell? ⟨b, 16, none⟩ = some v16 ∧ w.cell? ⟨b, 17, none⟩ = some v17 ∧ w.cell? ⟨b, 18, none⟩ = some v18 ∧ w.cell? ⟨b, 19, none⟩ = some v19 :=
  ⟨h.c 0 rfl, h.c 1 rfl, h.c 2 rfl, h.c 3 rfl, h.c 4 rfl, h.c 5 rfl, h.c 6 rfl, h.c 7 rfl, h.c 8 rfl, h.c 9 rfl, h.c 10 rfl, h.c 11 rfl, h.c 12 rfl, h.c 13 rfl, h.c 14 rfl, h.c 15 rfl, h.c 16 rfl, h.c 17 rfl, h.c 18 rfl, h.c 19 rfl⟩
theorem HV.z20 {w : World} {b : Nat} {v0 v1 v2 v3 v4 v5 v6 v7 v8 v9 v10 v11 v12 v13 v14 v15 v16 v17 v18 v19 : Value} (h : HV w b [v0, v1, v2, v3, v4, v5, v6, v7, v8, v9, v10, v11, v12, v13, v14, v15, v16, v17, v18, v19]) : w.frozen? ⟨b, 0, none⟩ = false ∧ w.frozen? ⟨b, 1, none⟩ = false ∧ w.frozen? ⟨b, 2, none⟩ = false ∧ w.frozen? ⟨b, 3, none⟩ = false ∧ w.frozen? ⟨b, 4, none⟩ = false ∧ w.frozen? ⟨b, 5, none⟩ = false ∧ w.frozen? ⟨b, 6, none⟩ = false ∧ w.frozen? ⟨b, 7, none⟩ = false ∧ w.frozen? ⟨b, 8, none⟩ = false ∧ w.frozen? ⟨b, 9, none⟩ = false ∧ w.frozen? ⟨b, 10, none⟩ = false ∧ w.frozen? ⟨b, 11, none⟩ = false ∧ w.frozen? ⟨b, 12, none⟩ = false ∧ w.frozen? ⟨b, 13, none⟩ = false ∧ w.frozen? ⟨b, 14, none⟩ = false ∧ w.frozen? ⟨b, 15, none⟩ = false ∧ w.frozen? ⟨b, 16, none⟩ = false ∧ w.frozen? ⟨b, 17, none⟩ = false ∧ w.frozen? ⟨b, 18, none⟩ = false ∧ w.frozen? ⟨b, 19, none⟩ = false :=
  ⟨h.f 0 rfl, h.f 1 rfl, h.f 2 rfl, h.f 3 rfl, h.f 4 rfl, h.f 5 rfl, h.f 6 rfl, h.f 7 rfl, h.f 8 rfl, h.f 9 rfl, h.f 10 rfl, h.f 11 rfl, h.f 12 rfl, h.f 13 rfl, h.f 14 rfl, h.f 15 rfl, h.f 16 rfl, h.f 17 rfl, h.f 18 rfl, h.f 19 rfl⟩

/-! V0 -/
theorem H3.farA {w : World} {b g o : Nat} {u v x y : Value} (h : H3 w b u v x) (hb : b ≠ g) : H3 (w.setCell ⟨g, o, none⟩ y) b u v x := by
  obtain ⟨h0, h1, h2, f0, f1, f2, hz⟩ := h
  have k : ∀ i, (w.setCell ⟨g, o, none⟩ y).cell? ⟨b, i, none⟩ = w.cell? ⟨b, i, none⟩ := fun i => World.cell?_setCell_other _ _ _ _ (by intro e; have := congrArg Addr.block e; dsimp only at this; omega)
  refine ⟨by rw [k]; exact h0, by rw [k]; exact h1, by rw [k]; exact h2, ?_, ?_, ?_, ?_⟩ <;> simp [go_sem, f0, f1, f2, hz]

theorem H3.set0 {w : World} {b : Nat} {u v x : Value} (h : H3 w b u v x) (u' : Value) : H3 (w.setCell ⟨b, 0, none⟩ u') b u' v x := by
  obtain ⟨h0, h1, h2, f0, f1, f2, hb⟩ := h
  refine ⟨?_, ?_, ?_, ?_, ?_, ?_, ?_⟩ <;> simp [go_sem, h0, h1, h2, f0, f1, f2, hb]
theorem H3.set1 {w : World} {b : Nat} {u v x : Value} (h : H3 w b u v x) (v' : Value) : H3 (w.setCell ⟨b, 1, none⟩ v') b u v' x := by
  obtain ⟨h0, h1, h2, f0, f1, f2, hb⟩ := h
  refine ⟨?_, ?_, ?_, ?_, ?_, ?_, ?_⟩ <;> simp [go_sem, h0, h1, h2, f0, f1, f2, hb]
theorem H3.set2 {w : World} {b : Nat} {u v x : Value} (h : H3 w b u v x) (x' : Value) : H3 (w.setCell ⟨b, 2, none⟩ x') b u v x' := by
  obtain ⟨h0, h1, h2, f0, f1, f2, hb⟩ := h
  refine ⟨?_, ?_, ?_, ?_, ?_, ?_, ?_⟩ <;> simp [go_sem, h0, h1, h2, f0, f1, f2, hb]
/-- three answers, one behind the other: all of it fails, if one does -/
def thr (r0 e0 r1 e1 r2 e2 : Int) : Value :=
  if e0 = 0 then if e1 = 0 then if e2 = 0 then .tuple #[.agg #[.int .i64 r0, .int .i64 r1, .int .i64 r2], .int .i64 0] else .tuple #[.agg #[.int .i64 0, .int .i64 0, .int .i64 0], .int .i64 e2] else .tuple #[.agg #[.int .i64 0, .int .i64 0, .int .i64 0], .int .i64 e1] else .tuple #[.agg #[.int .i64 0, .int .i64 0, .int .i64 0], .int .i64 e0]

/-! V1 -/

set_option maxHeartbeats 1000000 in
theorem of_any (x y z : Int) (w : World) :
    Calls Try.prog 51 #[.agg #[.int .i64 x, .int .i64 y, .int .i64 z]] w fun e w' => e = .returned (.agg #[.int .i64 x, .int .i64 y, .int .i64 z]) ∧ Ext w w' := by
  go_enter Try.func51, Try.ntmps51
  go_wp2_with fail
  exact bodyPost_ret (v := .agg #[.int .i64 x, .int .i64 y, .int .i64 z]) (by simp [results, Try.results51, go_sem]) rfl ⟨rfl, by repeat (first | with_reducible assumption | with_reducible exact Ext.refl _ | with_reducible refine Ext.drew ?_ | with_reducible refine Ext.drewN ?_ _ | with_reducible refine Ext.alloc ?_ _ | with_reducible refine Ext.set ?_ (by first | exact Nat.le_refl _ | (dsimp only; omega) | (simp; done)) _)⟩

/-- three words -/
def ok3 (a b c : Int) : Bool := okW a && (okW b && okW c)
theorem Ext.keepc {w w' : World} (h : Ext w w') {b o : Nat} {v : Value} (hc : w.cell? ⟨b, o, none⟩ = some v) : w'.cell? ⟨b, o, none⟩ = some v := by
  rw [(h.lay).1 b o (cell_lt hc)]
  exact hc
theorem ix3 (T : TypeId) (hT : T = 89) (x y z : Int) : (∀ w : World, (Instr.index T (.agg #[.int .i64 x, .int .i64 y, .int .i64 z]) (.int .i64 0)).run Try.prog w = .ok (.int .i64 x) w) ∧ (∀ w : World, (Instr.index T (.agg #[.int .i64 x, .int .i64 y, .int .i64 z]) (.int .i64 1)).run Try.prog w = .ok (.int .i64 y) w) ∧ (∀ w : World, (Instr.index T (.agg #[.int .i64 x, .int .i64 y, .int .i64 z]) (.int .i64 2)).run Try.prog w = .ok (.int .i64 z) w) := by
  subst hT
  exact ⟨fun _ => by kernel_rfl, fun _ => by kernel_rfl, fun _ => by kernel_rfl⟩
set_option maxRecDepth 20000 in
set_option maxHeartbeats 4000000 in
theorem check_list (n : Nat) (A : Nat → Nat → Int) (b : Nat) (w : World) (hn : n ≤ 4) (h : ∀ i, i < n → ∀ j, j < 3 → w.cell? ⟨b, i * 3 + j, none⟩ = some (.int .i64 (A i j))) :
    Calls Try.prog 50 #[.slice (some ⟨b, 0, none⟩) n n] w fun e w' => (∃ r : Int, e = .returned (.int .i64 r) ∧ (r = 0 ∧ (∀ i, i < n → ok3 (A i 0) (A i 1) (A i 2) = true) ∨ r = 1 ∧ ∃ i, i < n ∧ ok3 (A i 0) (A i 1) (A i 2) = false)) ∧ Ext w w' := by
  have HC : Hid (∀ v w', Calls Try.prog 52 #[.int .i64 v] w' fun e w'' => e = .returned (.int .i64 (chk v)) ∧ w'' = w') := check_any
  have hh : Hid _ := h
  clear h
  go_enter Try.func50, Try.ntmps50
  go_wp2_with fail
  go_loopw [10] (fun i wr => ∃ k : Nat, k ≤ n ∧ i = .int .i64 (k : Int) ∧ (∀ i, i < k → ok3 (A i 0) (A i 1) (A i 2) = true) ∧ Ext w wr) (fun i _ => n - (intOf i).toNat)
  case atStart => exact ⟨0, by omega, rfl, fun i hi => by omega, Ext.refl _⟩
  case round =>
    obtain ⟨k, hk, rfl, hok, hx⟩ := hrel
    have HK : Hid _ := hok
    clear hok
    by_cases hlt : k < n
    · have c0 := hx.keepc (hh.out k hlt 0 (by omega))
      rw [Nat.add_zero] at c0
      have c1 := hx.keepc (hh.out k hlt 1 (by omega))
      have c2 := hx.keepc (hh.out k hlt 2 (by omega))
      have HB : Hid (ok3 (A k 0) (A k 1) (A k 2) = false → ∃ i, i < n ∧ ok3 (A i 0) (A i 1) (A i 2) = false) := fun h => ⟨k, hlt, h⟩
      have HG : Hid (ok3 (A k 0) (A k 1) (A k 2) = true → ∀ i, i < k + 1 → ok3 (A i 0) (A i 1) (A i 2) = true) := fun h i hi => by
        rcases Nat.lt_or_ge i k with h1 | h1
        · exact HK.out i h1
        · obtain rfl : i = k := by omega
          exact h
      have hlt' : (k : Int) < (n : Int) := by omega
      generalize A k 0 = x0 at *
      generalize A k 1 = x1 at *
      generalize A k 2 = x2 at *
      obtain ⟨i0, i1, i2⟩ := ix3 89 rfl x0 x1 x2
      cases g0 : okW x0
      · have e0 : chk x0 = 1 := by unfold chk; rw [g0]; rfl
        have HF : Hid _ := HB.out (by unfold ok3; rw [g0]; rfl)
        clear g0 HB HG
        go_wp2_with fail
        refine wp_loop_rounds 4 ?_
        rw [rounds_succ]
        go_wp2_with (go_at_call 52; refine (HC.out _ _).mono ?_; rintro e wx ⟨rfl, hwx⟩; have hwy := hwx.symm; clear hwx; subst hwy)
        go_ret
        exact ⟨⟨1, rfl, Or.inr ⟨rfl, HF.out⟩⟩, by repeat (first | with_reducible assumption | with_reducible exact Ext.refl _ | with_reducible refine Ext.drew ?_ | with_reducible refine Ext.drewN ?_ _ | with_reducible refine Ext.alloc ?_ _ | with_reducible refine Ext.set ?_ (by first | exact Nat.le_refl _ | (dsimp only; omega) | (simp; done)) _)⟩
      · have e0 : chk x0 = 0 := by unfold chk; rw [g0]; rfl
        cases g1 : okW x1
        · have e1 : chk x1 = 1 := by unfold chk; rw [g1]; rfl
          have HF : Hid _ := HB.out (by unfold ok3; rw [g0, g1]; rfl)
          clear g0 g1 HB HG
          go_wp2_with fail
          refine wp_loop_rounds 4 ?_
          rw [rounds_succ]
          go_wp2_with (go_at_call 52; refine (HC.out _ _).mono ?_; rintro e wx ⟨rfl, hwx⟩; have hwy := hwx.symm; clear hwx; subst hwy)
          rw [rounds_succ]
          go_wp2_with (go_at_call 52; refine (HC.out _ _).mono ?_; rintro e wx ⟨rfl, hwx⟩; have hwy := hwx.symm; clear hwx; subst hwy)
          go_ret
          exact ⟨⟨1, rfl, Or.inr ⟨rfl, HF.out⟩⟩, by repeat (first | with_reducible assumption | with_reducible exact Ext.refl _ | with_reducible refine Ext.drew ?_ | with_reducible refine Ext.drewN ?_ _ | with_reducible refine Ext.alloc ?_ _ | with_reducible refine Ext.set ?_ (by first | exact Nat.le_refl _ | (dsimp only; omega) | (simp; done)) _)⟩
        · have e1 : chk x1 = 0 := by unfold chk; rw [g1]; rfl
          cases g2 : okW x2
          · have e2 : chk x2 = 1 := by unfold chk; rw [g2]; rfl
            have HF : Hid _ := HB.out (by unfold ok3; rw [g0, g1, g2]; rfl)
            clear g0 g1 g2 HB HG
            go_wp2_with fail
            refine wp_loop_rounds 4 ?_
            rw [rounds_succ]
            go_wp2_with (go_at_call 52; refine (HC.out _ _).mono ?_; rintro e wx ⟨rfl, hwx⟩; have hwy := hwx.symm; clear hwx; subst hwy)
            rw [rounds_succ]
            go_wp2_with (go_at_call 52; refine (HC.out _ _).mono ?_; rintro e wx ⟨rfl, hwx⟩; have hwy := hwx.symm; clear hwx; subst hwy)
            rw [rounds_succ]
            go_wp2_with (go_at_call 52; refine (HC.out _ _).mono ?_; rintro e wx ⟨rfl, hwx⟩; have hwy := hwx.symm; clear hwx; subst hwy)
            go_ret
            exact ⟨⟨1, rfl, Or.inr ⟨rfl, HF.out⟩⟩, by repeat (first | with_reducible assumption | with_reducible exact Ext.refl _ | with_reducible refine Ext.drew ?_ | with_reducible refine Ext.drewN ?_ _ | with_reducible refine Ext.alloc ?_ _ | with_reducible refine Ext.set ?_ (by first | exact Nat.le_refl _ | (dsimp only; omega) | (simp; done)) _)⟩
          · have e2 : chk x2 = 0 := by unfold chk; rw [g2]; rfl
            have HF : Hid _ := HG.out (by unfold ok3; rw [g0, g1, g2]; rfl)
            clear g0 g1 g2 HB HG
            go_wp2_with fail
            refine wp_loop_rounds 4 ?_
            rw [rounds_succ]
            go_wp2_with (go_at_call 52; refine (HC.out _ _).mono ?_; rintro e wx ⟨rfl, hwx⟩; have hwy := hwx.symm; clear hwx; subst hwy)
            rw [rounds_succ]
            go_wp2_with (go_at_call 52; refine (HC.out _ _).mono ?_; rintro e wx ⟨rfl, hwx⟩; have hwy := hwx.symm; clear hwx; subst hwy)
            rw [rounds_succ]
            go_wp2_with (go_at_call 52; refine (HC.out _ _).mono ?_; rintro e wx ⟨rfl, hwx⟩; have hwy := hwx.symm; clear hwx; subst hwy)
            rw [rounds_succ]
            go_wp2_with (go_at_call 52; refine (HC.out _ _).mono ?_; rintro e wx ⟨rfl, hwx⟩; have hwy := hwx.symm; clear hwx; subst hwy)
            go_roundw
            case rel => exact ⟨k + 1, by omega, by go_num, HF.out, by repeat (first | with_reducible assumption | with_reducible exact Ext.refl _ | with_reducible refine Ext.drew ?_ | with_reducible refine Ext.drewN ?_ _ | with_reducible refine Ext.alloc ?_ _ | with_reducible refine Ext.set ?_ (by first | exact Nat.le_refl _ | (dsimp only; omega) | (simp; done)) _)⟩
            case measure => simp [intOf]; omega
    · go_wp2_with fail
      go_ret
      exact ⟨⟨0, rfl, Or.inl ⟨rfl, fun i hi => HK.out i (by omega)⟩⟩, hx⟩

/-! V2b -/
def one3 (a0 a1 a2 : Int) (_i j : Nat) : Int := if j = 0 then a0 else if j = 1 then a1 else a2
theorem cells3_at (a0 a1 a2 : Int) (W : World) (n : Nat) (T : TypeId) (hn : W.heap.size = n) : ∀ i, i < 1 → ∀ j, j < 3 → (W.alloc (.cells #[.int .i64 a0, .int .i64 a1, .int .i64 a2] T)).cell? ⟨n, i * 3 + j, none⟩ = some (.int .i64 (one3 a0 a1 a2 i j)) := by
  subst hn
  intro i hi j hj
  obtain rfl : i = 0 := by omega
  have hj' : j = 0 ∨ j = 1 ∨ j = 2 := by omega
  rcases hj' with rfl | rfl | rfl <;> simp [go_sem, one3]
theorem check1_yes (a0 a1 a2 : Int) (W : World) (n : Nat) (T : TypeId) (hn : W.heap.size = n) (h1 : ok3 a0 a1 a2 = true) :
    Calls Try.prog 50 #[.slice (some ⟨n, 0, none⟩) 1 1] (W.alloc (.cells #[.int .i64 a0, .int .i64 a1, .int .i64 a2] T)) fun e w' => e = .returned (.int .i64 0) ∧ Ext (W.alloc (.cells #[.int .i64 a0, .int .i64 a1, .int .i64 a2] T)) w' := by
  refine (check_list 1 (one3 a0 a1 a2) n _ (by omega) (cells3_at a0 a1 a2 W n T hn)).mono ?_
  rintro e w1 ⟨⟨r, rfl, hr⟩, x⟩
  rcases hr with ⟨rfl, _⟩ | ⟨_, i, hi, hb⟩
  · exact ⟨rfl, x⟩
  · exfalso
    simp [one3, h1] at hb
theorem check1_no (a0 a1 a2 : Int) (W : World) (n : Nat) (T : TypeId) (hn : W.heap.size = n) (h : ok3 a0 a1 a2 = false) :
    Calls Try.prog 50 #[.slice (some ⟨n, 0, none⟩) 1 1] (W.alloc (.cells #[.int .i64 a0, .int .i64 a1, .int .i64 a2] T)) fun e w' => e = .returned (.int .i64 1) ∧ Ext (W.alloc (.cells #[.int .i64 a0, .int .i64 a1, .int .i64 a2] T)) w' := by
  refine (check_list 1 (one3 a0 a1 a2) n _ (by omega) (cells3_at a0 a1 a2 W n T hn)).mono ?_
  rintro e w1 ⟨⟨r, rfl, hr⟩, x⟩
  rcases hr with ⟨rfl, hk⟩ | ⟨rfl, _⟩
  · exfalso
    have h1 := hk 0 (by omega)
    simp [one3] at h1
    rw [h1] at h
    cases h
  · exact ⟨rfl, x⟩
def chk3 (x y z : Int) : Int := if ok3 x y z then 0 else 1
set_option maxRecDepth 20000 in
set_option maxHeartbeats 4000000 in
theorem vCheck_any (x y z : Int) (w : World) :
    Calls Try.prog 31 #[.agg #[.int .i64 x, .int .i64 y, .int .i64 z]] w fun e w' => e = .returned (.int .i64 (chk3 x y z)) ∧ Ext w w' := by
  have HF : Hid _ := of_any x y z
  have HC : Hid (∀ (W : World) (n : Nat) (T : TypeId), W.heap.size = n → Calls Try.prog 50 #[.slice (some ⟨n, 0, none⟩) 1 1] (W.alloc (.cells #[.int .i64 x, .int .i64 y, .int .i64 z] T)) fun e w' => e = .returned (.int .i64 (chk3 x y z)) ∧ Ext (W.alloc (.cells #[.int .i64 x, .int .i64 y, .int .i64 z] T)) w') := by
    intro W n T hn
    unfold chk3
    cases h : ok3 x y z
    · exact check1_no x y z W n T hn h
    · exact check1_yes x y z W n T hn h
  go_enter Try.func31, Try.ntmps31
  go_wp2_with fail
  refine (HF.out _).mono ?_
  rintro e w1 ⟨rfl, x1⟩
  have X1 : Ext w w1 := Ext.trans (by repeat (first | with_reducible assumption | with_reducible exact Ext.refl _ | with_reducible refine Ext.drew ?_ | with_reducible refine Ext.drewN ?_ _ | with_reducible refine Ext.alloc ?_ _ | with_reducible refine Ext.set ?_ (by first | exact Nat.le_refl _ | (dsimp only; omega) | (simp; done)) _)) x1
  clear x1
  go_wp2_with fail
  refine (HC.out _ _ _ rfl).mono ?_
  rintro e w2 ⟨rfl, x2⟩
  have X2 : Ext w w2 := Ext.trans (by repeat (first | with_reducible assumption | with_reducible exact Ext.refl _ | with_reducible refine Ext.drew ?_ | with_reducible refine Ext.drewN ?_ _ | with_reducible refine Ext.alloc ?_ _ | with_reducible refine Ext.set ?_ (by first | exact Nat.le_refl _ | (dsimp only; omega) | (simp; done)) _)) x2
  go_wp2_with fail
  go_ret
  exact ⟨rfl, X2⟩

/-! V6d -/
def vres (s0 s1 s2 : Int) : Value := if ok3 s0 s1 s2 then .tuple #[.agg #[.int .i64 s0, .int .i64 s1, .int .i64 s2], .int .i64 0] else .tuple #[.agg #[.int .i64 0, .int .i64 0, .int .i64 0], .int .i64 2]
def vbad : Value := .tuple #[.agg #[.int .i64 0, .int .i64 0, .int .i64 0], .int .i64 1]
theorem fit_yes' {s : Int} (h : okW s = true) : fitR s = (s, 0) := by unfold fitR; rw [if_pos h]
theorem fit_no' {s : Int} (h : okW s = false) : fitR s = (0, 2) := by unfold fitR; rw [h]; rfl
theorem thr_fit (s0 s1 s2 : Int) : thr (fitR s0).1 (fitR s0).2 (fitR s1).1 (fitR s1).2 (fitR s2).1 (fitR s2).2 = vres s0 s1 s2 := by
  unfold vres ok3 thr
  cases h0 : okW s0
  · rw [fit_no' h0]; rfl
  · rw [fit_yes' h0]
    cases h1 : okW s1
    · rw [fit_no' h1]; rfl
    · rw [fit_yes' h1]
      cases h2 : okW s2
      · rw [fit_no' h2]; rfl
      · rw [fit_yes' h2]; rfl
theorem vres_shape (s0 s1 s2 : Int) : ∃ x y z e : Int, vres s0 s1 s2 = .tuple #[.agg #[.int .i64 x, .int .i64 y, .int .i64 z], .int .i64 e] := by
  unfold vres; split <;> exact ⟨_, _, _, _, rfl⟩
theorem ok3_parts {a b c : Int} (h : ok3 a b c = true) : okW a = true ∧ okW b = true ∧ okW c = true := by
  unfold ok3 at h; simp only [Bool.and_eq_true] at h; exact ⟨h.1, h.2.1, h.2.2⟩


/-! Q0 -/
/-- 2 cells of a variable, which may be written -/
def H2 (w : World) (b : Nat) (v0 v1 : Value) : Prop :=
  w.cell? ⟨b, 0, none⟩ = some v0 ∧ w.cell? ⟨b, 1, none⟩ = some v1 ∧
  w.frozen? ⟨b, 0, none⟩ = false ∧ w.frozen? ⟨b, 1, none⟩ = false ∧ b < w.heap.size
theorem H2.ext {w w' : World} {b : Nat} {v0 v1 : Value} (h : H2 w b v0 v1) (hx : Ext w w') : H2 w' b v0 v1 := by
  obtain ⟨c0, c1, f0, f1, hb⟩ := h
  obtain ⟨hc, hf, hs⟩ := hx.lay
  exact ⟨(hc _ _ hb).trans c0, (hc _ _ hb).trans c1, (hf _ _ hb).trans f0, (hf _ _ hb).trans f1, by omega⟩
theorem h2_at {w : World} {b : Nat} {v0 v1 : Value} {T : TypeId} (h : w.heap.size = b) : H2 (w.alloc (.cells #[v0, v1] T)) b v0 v1 := by
  subst h
  refine ⟨?_, ?_, ?_, ?_, ?_⟩ <;> simp [go_sem]
theorem H2.alloc {w : World} {b : Nat} {v0 v1 : Value} (h : H2 w b v0 v1) (o : Obj) : H2 (w.alloc o) b v0 v1 := h.ext ((Ext.refl _).alloc o)
theorem H2.drew {w : World} {b : Nat} {v0 v1 : Value} (h : H2 w b v0 v1) : H2 w.drew b v0 v1 := h.ext (Ext.refl _).drew
theorem H2.far {w : World} {b g o : Nat} {v0 v1 y : Value} (h : H2 w b v0 v1) (hb : b ≠ g) : H2 (w.setCell ⟨g, o, none⟩ y) b v0 v1 := by
  obtain ⟨c0, c1, f0, f1, hz⟩ := h
  have k : ∀ i, (w.setCell ⟨g, o, none⟩ y).cell? ⟨b, i, none⟩ = w.cell? ⟨b, i, none⟩ := fun i => World.cell?_setCell_other _ _ _ _ (by intro e; have := congrArg Addr.block e; dsimp only at this; omega)
  refine ⟨(k _).trans c0, (k _).trans c1, ?_, ?_, ?_⟩ <;> simp [go_sem, f0, f1, hz]
theorem H2.far3 {w : World} {b g o o' o'' : Nat} {v0 v1 p q r : Value} (h : H2 w b v0 v1) (hb : b ≠ g) : H2 (((w.setCell ⟨g, o, none⟩ p).setCell ⟨g, o', none⟩ q).setCell ⟨g, o'', none⟩ r) b v0 v1 := ((h.far hb).far hb).far hb
/-- 4 cells of a variable, which may be written -/
def H4 (w : World) (b : Nat) (v0 v1 v2 v3 : Value) : Prop :=
  w.cell? ⟨b, 0, none⟩ = some v0 ∧ w.cell? ⟨b, 1, none⟩ = some v1 ∧ w.cell? ⟨b, 2, none⟩ = some v2 ∧ w.cell? ⟨b, 3, none⟩ = some v3 ∧
  w.frozen? ⟨b, 0, none⟩ = false ∧ w.frozen? ⟨b, 1, none⟩ = false ∧ w.frozen? ⟨b, 2, none⟩ = false ∧ w.frozen? ⟨b, 3, none⟩ = false ∧ b < w.heap.size
theorem H4.ext {w w' : World} {b : Nat} {v0 v1 v2 v3 : Value} (h : H4 w b v0 v1 v2 v3) (hx : Ext w w') : H4 w' b v0 v1 v2 v3 := by
  obtain ⟨c0, c1, c2, c3, f0, f1, f2, f3, hb⟩ := h
  obtain ⟨hc, hf, hs⟩ := hx.lay
  exact ⟨(hc _ _ hb).trans c0, (hc _ _ hb).trans c1, (hc _ _ hb).trans c2, (hc _ _ hb).trans c3, (hf _ _ hb).trans f0, (hf _ _ hb).trans f1, (hf _ _ hb).trans f2, (hf _ _ hb).trans f3, by omega⟩
theorem h4_at {w : World} {b : Nat} {v0 v1 v2 v3 : Value} {T : TypeId} (h : w.heap.size = b) : H4 (w.alloc (.cells #[v0, v1, v2, v3] T)) b v0 v1 v2 v3 := by
  subst h
  refine ⟨?_, ?_, ?_, ?_, ?_, ?_, ?_, ?_, ?_⟩ <;> simp [go_sem]
theorem H4.alloc {w : World} {b : Nat} {v0 v1 v2 v3 : Value} (h : H4 w b v0 v1 v2 v3) (o : Obj) : H4 (w.alloc o) b v0 v1 v2 v3 := h.ext ((Ext.refl _).alloc o)
theorem H4.drew {w : World} {b : Nat} {v0 v1 v2 v3 : Value} (h : H4 w b v0 v1 v2 v3) : H4 w.drew b v0 v1 v2 v3 := h.ext (Ext.refl _).drew
theorem H4.far {w : World} {b g o : Nat} {v0 v1 v2 v3 y : Value} (h : H4 w b v0 v1 v2 v3) (hb : b ≠ g) : H4 (w.setCell ⟨g, o, none⟩ y) b v0 v1 v2 v3 := by
  obtain ⟨c0, c1, c2, c3, f0, f1, f2, f3, hz⟩ := h
  have k : ∀ i, (w.setCell ⟨g, o, none⟩ y).cell? ⟨b, i, none⟩ = w.cell? ⟨b, i, none⟩ := fun i => World.cell?_setCell_other _ _ _ _ (by intro e; have := congrArg Addr.block e; dsimp only at this; omega)
  refine ⟨(k _).trans c0, (k _).trans c1, (k _).trans c2, (k _).trans c3, ?_, ?_, ?_, ?_, ?_⟩ <;> simp [go_sem, f0, f1, f2, f3, hz]
theorem H4.far3 {w : World} {b g o o' o'' : Nat} {v0 v1 v2 v3 p q r : Value} (h : H4 w b v0 v1 v2 v3) (hb : b ≠ g) : H4 (((w.setCell ⟨g, o, none⟩ p).setCell ⟨g, o', none⟩ q).setCell ⟨g, o'', none⟩ r) b v0 v1 v2 v3 := ((h.far hb).far hb).far hb
theorem H4.set0 {w : World} {b : Nat} {v0 v1 v2 v3 : Value} (h : H4 w b v0 v1 v2 v3) (y : Value) : H4 (w.setCell ⟨b, 0, none⟩ y) b y v1 v2 v3 := by
  obtain ⟨c0, c1, c2, c3, f0, f1, f2, f3, hb⟩ := h
  refine ⟨?_, ?_, ?_, ?_, ?_, ?_, ?_, ?_, ?_⟩ <;> simp [go_sem, c0, c1, c2, c3, f0, f1, f2, f3, hb]
theorem H4.set1 {w : World} {b : Nat} {v0 v1 v2 v3 : Value} (h : H4 w b v0 v1 v2 v3) (y : Value) : H4 (w.setCell ⟨b, 1, none⟩ y) b v0 y v2 v3 := by
  obtain ⟨c0, c1, c2, c3, f0, f1, f2, f3, hb⟩ := h
  refine ⟨?_, ?_, ?_, ?_, ?_, ?_, ?_, ?_, ?_⟩ <;> simp [go_sem, c0, c1, c2, c3, f0, f1, f2, f3, hb]
theorem H4.set2 {w : World} {b : Nat} {v0 v1 v2 v3 : Value} (h : H4 w b v0 v1 v2 v3) (y : Value) : H4 (w.setCell ⟨b, 2, none⟩ y) b v0 v1 y v3 := by
  obtain ⟨c0, c1, c2, c3, f0, f1, f2, f3, hb⟩ := h
  refine ⟨?_, ?_, ?_, ?_, ?_, ?_, ?_, ?_, ?_⟩ <;> simp [go_sem, c0, c1, c2, c3, f0, f1, f2, f3, hb]
theorem H4.set3 {w : World} {b : Nat} {v0 v1 v2 v3 : Value} (h : H4 w b v0 v1 v2 v3) (y : Value) : H4 (w.setCell ⟨b, 3, none⟩ y) b v0 v1 v2 y := by
  obtain ⟨c0, c1, c2, c3, f0, f1, f2, f3, hb⟩ := h
  refine ⟨?_, ?_, ?_, ?_, ?_, ?_, ?_, ?_, ?_⟩ <;> simp [go_sem, c0, c1, c2, c3, f0, f1, f2, f3, hb]
/-- 12 cells of a variable, which may be written -/
def H12 (w : World) (b : Nat) (v0 v1 v2 v3 v4 v5 v6 v7 v8 v9 v10 v11 : Value) : Prop :=
  w.cell? ⟨b, 0, none⟩ = some v0 ∧ w.cell? ⟨b, 1, none⟩ = some v1 ∧ w.cell? ⟨b, 2, none⟩ = some v2 ∧ w.cell? ⟨b, 3, none⟩ = some v3 ∧ w.cell? ⟨b, 4, none⟩ = some v4 ∧ w.cell? ⟨b, 5, none⟩ = some v5 ∧ w.cell? ⟨b, 6, none⟩ = some v6 ∧ w.cell? ⟨b, 7, none⟩ = some v7 ∧ w.cell? ⟨b, 8, none⟩ = some v8 ∧ w.cell? ⟨b, 9, none⟩ = some v9 ∧ w.cell? ⟨b, 10, none⟩ = some v10 ∧ w.cell? ⟨b, 11, none⟩ = some v11 ∧
  w.frozen? ⟨b, 0, none⟩ = false ∧ w.frozen? ⟨b, 1, none⟩ = false ∧ w.frozen? ⟨b, 2, none⟩ = false ∧ w.frozen? ⟨b, 3, none⟩ = false ∧ w.frozen? ⟨b, 4, none⟩ = false ∧ w.frozen? ⟨b, 5, none⟩ = false ∧ w.frozen? ⟨b, 6, none⟩ = false ∧ w.frozen? ⟨b, 7, none⟩ = false ∧ w.frozen? ⟨b, 8, none⟩ = false ∧ w.frozen? ⟨b, 9, none⟩ = false ∧ w.frozen? ⟨b, 10, none⟩ = false ∧ w.frozen? ⟨b, 11, none⟩ = false ∧ b < w.heap.size
theorem H12.ext {w w' : World} {b : Nat} {v0 v1 v2 v3 v4 v5 v6 v7 v8 v9 v10 v11 : Value} (h : H12 w b v0 v1 v2 v3 v4 v5 v6 v7 v8 v9 v10 v11) (hx : Ext w w') : H12 w' b v0 v1 v2 v3 v4 v5 v6 v7 v8 v9 v10 v11 := by
  obtain ⟨c0, c1, c2, c3, c4, c5, c6, c7, c8, c9, c10, c11, f0, f1, f2, f3, f4, f5, f6, f7, f8, f9, f10, f11, hb⟩ := h
  obtain ⟨hc, hf, hs⟩ := hx.lay
  exact ⟨(hc _ _ hb).trans c0, (hc _ _ hb).trans c1, (hc _ _ hb).trans c2, (hc _ _ hb).trans c3, (hc _ _ hb).trans c4, (hc _ _ hb).trans c5, (hc _ _ hb).trans c6, (hc _ _ hb).trans c7, (hc _ _ hb).trans c8, (hc _ _ hb).trans c9, (hc _ _ hb).trans c10, (hc _ _ hb).trans c11, (hf _ _ hb).trans f0, (hf _ _ hb).trans f1, (hf _ _ hb).trans f2, (hf _ _ hb).trans f3, (hf _ _ hb).trans f4, (hf _ _ hb).trans f5, (hf _ _ hb).trans f6, (hf _ _ hb).trans f7, (hf _ _ hb).trans f8, (hf _ _ hb).trans f9, (hf _ _ hb).trans f10, (hf _ _ hb).trans f11, by omega⟩
theorem h12_at {w : World} {b : Nat} {v0 v1 v2 v3 v4 v5 v6 v7 v8 v9 v10 v11 : Value} {T : TypeId} (h : w.heap.size = b) : H12 (w.alloc (.cells #[v0, v1, v2, v3, v4, v5, v6, v7, v8, v9, v10, v11] T)) b v0 v1 v2 v3 v4 v5 v6 v7 v8 v9 v10 v11 := by
  subst h
  refine ⟨?_, ?_, ?_, ?_, ?_, ?_, ?_, ?_, ?_, ?_, ?_, ?_, ?_, ?_, ?_, ?_, ?_, ?_, ?_, ?_, ?_, ?_, ?_, ?_, ?_⟩ <;> simp [go_sem]
theorem H12.alloc {w : World} {b : Nat} {v0 v1 v2 v3 v4 v5 v6 v7 v8 v9 v10 v11 : Value} (h : H12 w b v0 v1 v2 v3 v4 v5 v6 v7 v8 v9 v10 v11) (o : Obj) : H12 (w.alloc o) b v0 v1 v2 v3 v4 v5 v6 v7 v8 v9 v10 v11 := h.ext ((Ext.refl _).alloc o)
theorem H12.drew {w : World} {b : Nat} {v0 v1 v2 v3 v4 v5 v6 v7 v8 v9 v10 v11 : Value} (h : H12 w b v0 v1 v2 v3 v4 v5 v6 v7 v8 v9 v10 v11) : H12 w.drew b v0 v1 v2 v3 v4 v5 v6 v7 v8 v9 v10 v11 := h.ext (Ext.refl _).drew
theorem H12.far {w : World} {b g o : Nat} {v0 v1 v2 v3 v4 v5 v6 v7 v8 v9 v10 v11 y : Value} (h : H12 w b v0 v1 v2 v3 v4 v5 v6 v7 v8 v9 v10 v11) (hb : b ≠ g) : H12 (w.setCell ⟨g, o, none⟩ y) b v0 v1 v2 v3 v4 v5 v6 v7 v8 v9 v10 v11 := by
  obtain ⟨c0, c1, c2, c3, c4, c5, c6, c7, c8, c9, c10, c11, f0, f1, f2, f3, f4, f5, f6, f7, f8, f9, f10, f11, hz⟩ := h
  have k : ∀ i, (w.setCell ⟨g, o, none⟩ y).cell? ⟨b, i, none⟩ = w.cell? ⟨b, i, none⟩ := fun i => World.cell?_setCell_other _ _ _ _ (by intro e; have := congrArg Addr.block e; dsimp only at this; omega)
  refine ⟨(k _).trans c0, (k _).trans c1, (k _).trans c2, (k _).trans c3, (k _).trans c4, (k _).trans c5, (k _).trans c6, (k _).trans c7, (k _).trans c8, (k _).trans c9, (k _).trans c10, (k _).trans c11, ?_, ?_, ?_, ?_, ?_, ?_, ?_, ?_, ?_, ?_, ?_, ?_, ?_⟩ <;> simp [go_sem, f0, f1, f2, f3, f4, f5, f6, f7, f8, f9, f10, f11, hz]
theorem H12.far3 {w : World} {b g o o' o'' : Nat} {v0 v1 v2 v3 v4 v5 v6 v7 v8 v9 v10 v11 p q r : Value} (h : H12 w b v0 v1 v2 v3 v4 v5 v6 v7 v8 v9 v10 v11) (hb : b ≠ g) : H12 (((w.setCell ⟨g, o, none⟩ p).setCell ⟨g, o', none⟩ q).setCell ⟨g, o'', none⟩ r) b v0 v1 v2 v3 v4 v5 v6 v7 v8 v9 v10 v11 := ((h.far hb).far hb).far hb
theorem H12.put0 {w : World} {b : Nat} {v0 v1 v2 v3 v4 v5 v6 v7 v8 v9 v10 v11 : Value} (h : H12 w b v0 v1 v2 v3 v4 v5 v6 v7 v8 v9 v10 v11) (x y z : Value) : H12 (((w.setCell ⟨b, 0, none⟩ x).setCell ⟨b, 1, none⟩ y).setCell ⟨b, 2, none⟩ z) b x y z v3 v4 v5 v6 v7 v8 v9 v10 v11 := by
  obtain ⟨c0, c1, c2, c3, c4, c5, c6, c7, c8, c9, c10, c11, f0, f1, f2, f3, f4, f5, f6, f7, f8, f9, f10, f11, hb⟩ := h
  refine ⟨?_, ?_, ?_, ?_, ?_, ?_, ?_, ?_, ?_, ?_, ?_, ?_, ?_, ?_, ?_, ?_, ?_, ?_, ?_, ?_, ?_, ?_, ?_, ?_, ?_⟩ <;> simp [go_sem, c0, c1, c2, c3, c4, c5, c6, c7, c8, c9, c10, c11, f0, f1, f2, f3, f4, f5, f6, f7, f8, f9, f10, f11, hb]
theorem H12.put1 {w : World} {b : Nat} {v0 v1 v2 v3 v4 v5 v6 v7 v8 v9 v10 v11 : Value} (h : H12 w b v0 v1 v2 v3 v4 v5 v6 v7 v8 v9 v10 v11) (x y z : Value) : H12 (((w.setCell ⟨b, 3, none⟩ x).setCell ⟨b, 4, none⟩ y).setCell ⟨b, 5, none⟩ z) b v0 v1 v2 x y z v6 v7 v8 v9 v10 v11 := by
  obtain ⟨c0, c1, c2, c3, c4, c5, c6, c7, c8, c9, c10, c11, f0, f1, f2, f3, f4, f5, f6, f7, f8, f9, f10, f11, hb⟩ := h
  refine ⟨?_, ?_, ?_, ?_, ?_, ?_, ?_, ?_, ?_, ?_, ?_, ?_, ?_, ?_, ?_, ?_, ?_, ?_, ?_, ?_, ?_, ?_, ?_, ?_, ?_⟩ <;> simp [go_sem, c0, c1, c2, c3, c4, c5, c6, c7, c8, c9, c10, c11, f0, f1, f2, f3, f4, f5, f6, f7, f8, f9, f10, f11, hb]
theorem H12.put2 {w : World} {b : Nat} {v0 v1 v2 v3 v4 v5 v6 v7 v8 v9 v10 v11 : Value} (h : H12 w b v0 v1 v2 v3 v4 v5 v6 v7 v8 v9 v10 v11) (x y z : Value) : H12 (((w.setCell ⟨b, 6, none⟩ x).setCell ⟨b, 7, none⟩ y).setCell ⟨b, 8, none⟩ z) b v0 v1 v2 v3 v4 v5 x y z v9 v10 v11 := by
  obtain ⟨c0, c1, c2, c3, c4, c5, c6, c7, c8, c9, c10, c11, f0, f1, f2, f3, f4, f5, f6, f7, f8, f9, f10, f11, hb⟩ := h
  refine ⟨?_, ?_, ?_, ?_, ?_, ?_, ?_, ?_, ?_, ?_, ?_, ?_, ?_, ?_, ?_, ?_, ?_, ?_, ?_, ?_, ?_, ?_, ?_, ?_, ?_⟩ <;> simp [go_sem, c0, c1, c2, c3, c4, c5, c6, c7, c8, c9, c10, c11, f0, f1, f2, f3, f4, f5, f6, f7, f8, f9, f10, f11, hb]
theorem H12.put3 {w : World} {b : Nat} {v0 v1 v2 v3 v4 v5 v6 v7 v8 v9 v10 v11 : Value} (h : H12 w b v0 v1 v2 v3 v4 v5 v6 v7 v8 v9 v10 v11) (x y z : Value) : H12 (((w.setCell ⟨b, 9, none⟩ x).setCell ⟨b, 10, none⟩ y).setCell ⟨b, 11, none⟩ z) b v0 v1 v2 v3 v4 v5 v6 v7 v8 x y z := by
  obtain ⟨c0, c1, c2, c3, c4, c5, c6, c7, c8, c9, c10, c11, f0, f1, f2, f3, f4, f5, f6, f7, f8, f9, f10, f11, hb⟩ := h
  refine ⟨?_, ?_, ?_, ?_, ?_, ?_, ?_, ?_, ?_, ?_, ?_, ?_, ?_, ?_, ?_, ?_, ?_, ?_, ?_, ?_, ?_, ?_, ?_, ?_, ?_⟩ <;> simp [go_sem, c0, c1, c2, c3, c4, c5, c6, c7, c8, c9, c10, c11, f0, f1, f2, f3, f4, f5, f6, f7, f8, f9, f10, f11, hb]

/-! Q1b -/

set_option maxRecDepth 20000 in
set_option maxHeartbeats 2000000 in
theorem cmpOr_any (n B : Nat) (E : Nat → Int) (w : World) (hn : n ≤ 4) (HB : Hid (∀ i, i < n → w.cell? ⟨B, i, none⟩ = some (.int .i64 (E i)) ∧ B < w.heap.size)) :
    Calls Try.prog 30 #[.slice (some ⟨B, 0, none⟩) n n] w fun e w' => (∃ r : Int, e = .returned (.int .i64 r) ∧ ((∃ k, k < n ∧ (∀ i, i < k → E i = 0) ∧ E k ≠ 0 ∧ r = E k) ∨ ((∀ i, i < n → E i = 0) ∧ r = 0))) ∧ Ext w w' := by
  go_enter Try.func30, Try.ntmps30
  go_wp2_with fail
  go_loopw [8] (fun i wr => ∃ k : Nat, k ≤ n ∧ i = .int .i64 (k : Int) ∧ Hid (∀ i, i < k → E i = 0) ∧ Ext w wr) (fun i _ => n - (intOf i).toNat)
  case atStart => exact ⟨0, by omega, rfl, fun i hi => by omega, Ext.refl _⟩
  case round =>
    obtain ⟨k, hk, rfl, hE, hx⟩ := hrel
    by_cases hlt : k < n
    · have kx : (k : Int) < (n : Int) := by omega
      obtain ⟨hcy, hay⟩ := HB.out k hlt
      have hcy := ((hx.lay).1 B k hay).trans hcy
      by_cases h0 : E k = 0
      · have H1 : Hid (∀ i, i < k + 1 → E i = 0) := fun i hi => by
          rcases Nat.lt_or_ge i k with h | h
          · exact hE.out i h
          · obtain rfl : i = k := by omega
            exact h0
        rw [h0] at hcy
        clear hE HB
        go_wp2_with fail
        go_roundw
        case rel => exact ⟨k + 1, by omega, by go_num, H1, hx⟩
        case measure => simp [intOf]; omega
      · have h1 : (E k != 0) = true := by simp [h0]
        have H1 : Hid (∃ k, k < n ∧ (∀ i, i < k → E i = 0) ∧ E k ≠ 0 ∧ E k = E k) := ⟨k, hlt, hE.out, h0, rfl⟩
        have H2 : Hid (∃ j, j < n ∧ (∀ i, i < j → E i = 0) ∧ E j ≠ 0 ∧ E k = E j) := ⟨k, hlt, hE.out, h0, rfl⟩
        clear hE HB H1
        generalize E k = x at *
        go_wp2_with fail
        go_ret
        exact ⟨⟨x, rfl, Or.inl H2.out⟩, hx⟩
    · have hkn : k = n := by omega
      subst hkn
      have H2 : Hid (∀ i, i < k → E i = 0) := hE
      clear HB hE
      go_wp2_with fail
      go_ret
      exact ⟨⟨0, rfl, Or.inr ⟨H2.out, rfl⟩⟩, hx⟩

theorem cmpOr4 (a b c d r : Int) (g : Nat) (w : World) (h : H4 w g (.int .i64 a) (.int .i64 b) (.int .i64 c) (.int .i64 d)) (hr : r = if a ≠ 0 then a else if b ≠ 0 then b else if c ≠ 0 then c else d) :
    Calls Try.prog 30 #[.slice (some ⟨g, 0, none⟩) 4 4] w fun e w' => e = .returned (.int .i64 r) ∧ Ext w w' := by
  obtain ⟨c0, c1, c2, c3, f0, f1, f2, f3, hb⟩ := h
  refine (cmpOr_any 4 g (fun i => if i = 0 then a else if i = 1 then b else if i = 2 then c else d) w (by omega) (fun i hi => ?_)).mono ?_
  · obtain rfl | rfl | rfl | rfl : i = 0 ∨ i = 1 ∨ i = 2 ∨ i = 3 := by omega
    · exact ⟨c0, hb⟩
    · exact ⟨c1, hb⟩
    · exact ⟨c2, hb⟩
    · exact ⟨c3, hb⟩
  · rintro e w1 ⟨⟨s, rfl, hs⟩, x1⟩
    refine ⟨?_, x1⟩
    have : s = r := by
      rcases hs with ⟨k, hk, h1, h2, rfl⟩ | ⟨h1, rfl⟩
      · obtain rfl | rfl | rfl | rfl : k = 0 ∨ k = 1 ∨ k = 2 ∨ k = 3 := by omega
        · have g0 : a ≠ 0 := h2
          rw [hr]; simp_all
        · have g0 : a = 0 := h1 0 (by omega)
          have g1 : b ≠ 0 := h2
          rw [hr]; simp_all
        · have g0 : a = 0 := h1 0 (by omega)
          have g1 : b = 0 := h1 1 (by omega)
          have g2 : c ≠ 0 := h2
          rw [hr]; simp_all
        · have g0 : a = 0 := h1 0 (by omega)
          have g1 : b = 0 := h1 1 (by omega)
          have g2 : c = 0 := h1 2 (by omega)
          rw [hr]; simp_all
      · have g0 : a = 0 := h1 0 (by omega)
        have g1 : b = 0 := h1 1 (by omega)
        have g2 : c = 0 := h1 2 (by omega)
        have g3 : d = 0 := h1 3 (by omega)
        rw [hr]; simp_all
    rw [this]

theorem cmpOr2 (a b r : Int) (g : Nat) (w : World) (h : H2 w g (.int .i64 a) (.int .i64 b)) (hr : r = if a ≠ 0 then a else b) :
    Calls Try.prog 30 #[.slice (some ⟨g, 0, none⟩) 2 2] w fun e w' => e = .returned (.int .i64 r) ∧ Ext w w' := by
  obtain ⟨c0, c1, f0, f1, hb⟩ := h
  refine (cmpOr_any 2 g (fun i => if i = 0 then a else b) w (by omega) (fun i hi => ?_)).mono ?_
  · obtain rfl | rfl : i = 0 ∨ i = 1 := by omega
    · exact ⟨c0, hb⟩
    · exact ⟨c1, hb⟩
  · rintro e w1 ⟨⟨s, rfl, hs⟩, x1⟩
    refine ⟨?_, x1⟩
    have : s = r := by
      rcases hs with ⟨k, hk, h1, h2, rfl⟩ | ⟨h1, rfl⟩
      · obtain rfl | rfl : k = 0 ∨ k = 1 := by omega
        · have g0 : a ≠ 0 := h2
          rw [hr]; simp_all
        · have g0 : a = 0 := h1 0 (by omega)
          rw [hr]; simp_all
      · have g0 : a = 0 := h1 0 (by omega)
        have g3 : b = 0 := h1 1 (by omega)
        rw [hr]; simp_all
    rw [this]


/-! Ca0 -/
def inn (x a b : Int) : Bool := decide (a ≤ x ∧ x ≤ b)
theorem inn_iff {x a b : Int} : inn x a b = true ↔ a ≤ x ∧ x ≤ b := by simp [inn]
theorem inn_not {x a b : Int} : inn x a b = false ↔ ¬ (a ≤ x ∧ x ≤ b) := by simp [inn]
set_option maxHeartbeats 400000 in
theorem istemp_any (x : Int) (w : World) : Calls Try.prog 29 #[.int .i64 x] w fun e w' => e = .returned (.bool (inn x (-128) 127)) ∧ w' = w := by
  by_cases h1 : ((-128) : Int) ≤ x
  · by_cases h2 : x ≤ (127 : Int)
    · have e : Hid (inn x (-128) 127 = true) := inn_iff.2 ⟨h1, h2⟩
      go_enter Try.func29, Try.ntmps29
      go_wp2
      go_ret
      rw [e.out]; exact ⟨rfl, rfl⟩
    · have e : Hid (inn x (-128) 127 = false) := inn_not.2 (fun h => h2 h.2)
      go_enter Try.func29, Try.ntmps29
      go_wp2
      go_ret
      rw [e.out]; exact ⟨rfl, rfl⟩
  · have e : Hid (inn x (-128) 127 = false) := inn_not.2 (fun h => h1 h.1)
    go_enter Try.func29, Try.ntmps29
    go_wp2
    go_ret
    rw [e.out]; exact ⟨rfl, rfl⟩
set_option maxHeartbeats 400000 in
theorem isword_any (x : Int) (w : World) : Calls Try.prog 45 #[.int .i64 x] w fun e w' => e = .returned (.bool (inn x (-32768) 32767)) ∧ w' = w := by
  by_cases h1 : ((-32768) : Int) ≤ x
  · by_cases h2 : x ≤ (32767 : Int)
    · have e : Hid (inn x (-32768) 32767 = true) := inn_iff.2 ⟨h1, h2⟩
      go_enter Try.func45, Try.ntmps45
      go_wp2
      go_ret
      rw [e.out]; exact ⟨rfl, rfl⟩
    · have e : Hid (inn x (-32768) 32767 = false) := inn_not.2 (fun h => h2 h.2)
      go_enter Try.func45, Try.ntmps45
      go_wp2
      go_ret
      rw [e.out]; exact ⟨rfl, rfl⟩
  · have e : Hid (inn x (-32768) 32767 = false) := inn_not.2 (fun h => h1 h.1)
    go_enter Try.func45, Try.ntmps45
    go_wp2
    go_ret
    rw [e.out]; exact ⟨rfl, rfl⟩
/-- a sample that may be -/
def okR (x y z t : Int) : Bool := inn x (-32768) 32767 && inn y (-32768) 32767 && inn z (-32768) 32767 && inn t (-128) 127
theorem okR_bounds {x y z t : Int} (h : okR x y z t = true) : (-32768 ≤ x ∧ x ≤ 32767) ∧ (-32768 ≤ y ∧ y ≤ 32767) ∧ (-32768 ≤ z ∧ z ≤ 32767) ∧ (-128 ≤ t ∧ t ≤ 127) := by
  unfold okR at h; simp only [Bool.and_eq_true, inn_iff] at h
  exact ⟨h.1.1.1, h.1.1.2, h.1.2, h.2⟩
theorem okR_of {x y z t : Int} (h1 : -32768 ≤ x ∧ x ≤ 32767) (h2 : -32768 ≤ y ∧ y ≤ 32767) (h3 : -32768 ≤ z ∧ z ≤ 32767) (h4 : -128 ≤ t ∧ t ≤ 127) : okR x y z t = true := by
  unfold okR; simp only [Bool.and_eq_true, inn_iff]; exact ⟨⟨⟨h1, h2⟩, h3⟩, h4⟩
set_option maxRecDepth 20000 in
set_option maxHeartbeats 4000000 in
theorem israw_any (x y z t : Int) (w : World) : Calls Try.prog 26 #[.agg #[.int .i64 x, .int .i64 y, .int .i64 z, .int .i64 t]] w fun e w' => e = .returned (.bool (okR x y z t)) ∧ Ext w w' := by
  have HX : Hid (∀ w, Calls Try.prog 45 #[.int .i64 x] w fun e w' => e = .returned (.bool (inn x (-32768) 32767)) ∧ w' = w) := isword_any x
  have HY : Hid (∀ w, Calls Try.prog 45 #[.int .i64 y] w fun e w' => e = .returned (.bool (inn y (-32768) 32767)) ∧ w' = w) := isword_any y
  have HZ : Hid (∀ w, Calls Try.prog 45 #[.int .i64 z] w fun e w' => e = .returned (.bool (inn z (-32768) 32767)) ∧ w' = w) := isword_any z
  have HT : Hid (∀ w, Calls Try.prog 29 #[.int .i64 t] w fun e w' => e = .returned (.bool (inn t (-128) 127)) ∧ w' = w) := istemp_any t
  have ex : Hid (okR x y z t = (inn x (-32768) 32767 && inn y (-32768) 32767 && inn z (-32768) 32767 && inn t (-128) 127)) := rfl
  generalize inn x (-32768) 32767 = p1 at *
  generalize inn y (-32768) 32767 = p2 at *
  generalize inn z (-32768) 32767 = p3 at *
  generalize inn t (-128) 127 = p4 at *
  generalize okR x y z t = R at *
  have hx : Ext w (w.alloc (.cells #[.int .i64 x, .int .i64 y, .int .i64 z, .int .i64 t] 29)) := (Ext.refl w).alloc _
  cases p1 <;> cases p2 <;> cases p3
  all_goals
    go_enter Try.func26, Try.ntmps26
    go_wp2_with (first | (go_at_call_of 45 (Value.int IntKind.i64 x); refine (HX.out _).mono ?_; rintro e wx ⟨rfl, hwx⟩; have hwy := hwx.symm; clear hwx; subst hwy) | (go_at_call_of 45 (Value.int IntKind.i64 y); refine (HY.out _).mono ?_; rintro e wx ⟨rfl, hwx⟩; have hwy := hwx.symm; clear hwx; subst hwy) | (go_at_call_of 45 (Value.int IntKind.i64 z); refine (HZ.out _).mono ?_; rintro e wx ⟨rfl, hwx⟩; have hwy := hwx.symm; clear hwx; subst hwy) | (go_at_call 29; refine (HT.out _).mono ?_; rintro e wx ⟨rfl, hwx⟩; have hwy := hwx.symm; clear hwx; subst hwy))
    go_ret
    rw [ex.out]
    exact ⟨by first | rfl | simp, hx⟩
/-- nine words -/
def okM (m : Nat → Int) : Bool := okW (m 0) && (okW (m 1) && (okW (m 2) && (okW (m 3) && (okW (m 4) && (okW (m 5) && (okW (m 6) && (okW (m 7) && okW (m 8))))))))
def chkM (m : Nat → Int) : Int := if okM m then 0 else 1
theorem okM_at {m : Nat → Int} (h : okM m = true) {k : Nat} (hk : k < 9) : okW (m k) = true := by
  unfold okM at h; simp only [Bool.and_eq_true] at h
  obtain ⟨h0, h1, h2, h3, h4, h5, h6, h7, h8⟩ := h
  match k, hk with
  | 0, _ => exact h0
  | 1, _ => exact h1
  | 2, _ => exact h2
  | 3, _ => exact h3
  | 4, _ => exact h4
  | 5, _ => exact h5
  | 6, _ => exact h6
  | 7, _ => exact h7
  | 8, _ => exact h8
theorem okM_of {m : Nat → Int} (h : ∀ k, k < 9 → okW (m k) = true) : okM m = true := by
  unfold okM
  rw [h 0 (by omega), h 1 (by omega), h 2 (by omega), h 3 (by omega), h 4 (by omega), h 5 (by omega), h 6 (by omega), h 7 (by omega), h 8 (by omega)]; rfl
theorem okM_no {m : Nat → Int} {k : Nat} (hk : k < 9) (h : okW (m k) = false) : okM m = false := by
  cases e : okM m
  · rfl
  · rw [okM_at e hk] at h; cases h
theorem ix9 (T : TypeId) (hT : T = 25) (m : Nat → Int) (k : Nat) (hk : k < 9) (w : World) : (Instr.index T (.agg #[.int .i64 (m 0), .int .i64 (m 1), .int .i64 (m 2), .int .i64 (m 3), .int .i64 (m 4), .int .i64 (m 5), .int .i64 (m 6), .int .i64 (m 7), .int .i64 (m 8)]) (.int .i64 (k : Int))).run Try.prog w = .ok (.int .i64 (m k)) w := by
  subst hT
  obtain rfl | rfl | rfl | rfl | rfl | rfl | rfl | rfl | rfl : k = 0 ∨ k = 1 ∨ k = 2 ∨ k = 3 ∨ k = 4 ∨ k = 5 ∨ k = 6 ∨ k = 7 ∨ k = 8 := by omega
  · kernel_rfl
  · kernel_rfl
  · kernel_rfl
  · kernel_rfl
  · kernel_rfl
  · kernel_rfl
  · kernel_rfl
  · kernel_rfl
  · kernel_rfl
set_option maxRecDepth 20000 in
set_option maxHeartbeats 4000000 in
theorem checkm_any (m : Nat → Int) (w : World) : Calls Try.prog 32 #[.agg #[.int .i64 (m 0), .int .i64 (m 1), .int .i64 (m 2), .int .i64 (m 3), .int .i64 (m 4), .int .i64 (m 5), .int .i64 (m 6), .int .i64 (m 7), .int .i64 (m 8)]] w fun e w' => e = .returned (.int .i64 (chkM m)) ∧ Ext w w' := by
  have HC : Hid (∀ v w', Calls Try.prog 52 #[.int .i64 v] w' fun e w'' => e = .returned (.int .i64 (chk v)) ∧ w'' = w') := check_any
  have HI : Hid (∀ (k : Nat) (hk : k < 9) (w : World), (Instr.index 25 (.agg #[.int .i64 (m 0), .int .i64 (m 1), .int .i64 (m 2), .int .i64 (m 3), .int .i64 (m 4), .int .i64 (m 5), .int .i64 (m 6), .int .i64 (m 7), .int .i64 (m 8)]) (.int .i64 (k : Int))).run Try.prog w = .ok (.int .i64 (m k)) w) := fun k hk w => ix9 _ rfl m k hk w
  have HB : Hid (∀ k, k < 9 → okW (m k) = false → chkM m = 1) := fun k hk h => by unfold chkM; rw [okM_no hk h]; rfl
  have HG : Hid ((∀ k, k < 9 → okW (m k) = true) → chkM m = 0) := fun h => by unfold chkM; rw [okM_of h]; rfl
  generalize chkM m = R at *
  go_enter Try.func32, Try.ntmps32
  go_wp2_with fail
  go_loopw [7] (fun i wr => ∃ k : Nat, k ≤ 9 ∧ i = .int .i64 (k : Int) ∧ Hid (∀ i, i < k → okW (m i) = true) ∧ Ext w wr) (fun i _ => 9 - (intOf i).toNat)
  case atStart => exact ⟨0, by omega, rfl, fun i hi => by omega, by repeat (first | with_reducible assumption | with_reducible exact Ext.refl _ | with_reducible refine Ext.drew ?_ | with_reducible refine Ext.drewN ?_ _ | with_reducible refine Ext.alloc ?_ _ | with_reducible refine Ext.set ?_ (by first | exact Nat.le_refl _ | (dsimp only; omega) | (simp; done)) _)⟩
  case round =>
    obtain ⟨k, hk, rfl, hok, hx⟩ := hrel
    by_cases hlt : k < 9
    · have kx : (k : Int) < 9 := by omega
      have hi := HI.out k hlt
      cases hc : okW (m k)
      · have e0 : chk (m k) = 1 := by unfold chk; rw [hc]; rfl
        have e1 : R = 1 := HB.out k hlt hc
        subst e1
        clear HB HG HI hc hok
        generalize m k = mk at *
        go_wp2_with (go_at_call 52; refine (HC.out _ _).mono ?_; rintro e wx ⟨rfl, hwx⟩; have hwy := hwx.symm; clear hwx; subst hwy)
        go_ret
        exact ⟨rfl, hx⟩
      · have e0 : chk (m k) = 0 := by unfold chk; rw [hc]; rfl
        have H1 : Hid (∀ i, i < k + 1 → okW (m i) = true) := fun i hi => by
          rcases Nat.lt_or_ge i k with h | h
          · exact hok.out i h
          · obtain rfl : i = k := by omega
            exact hc
        clear HB HG HI hc hok
        have hi : Hid _ := hi
        have e0 : Hid _ := e0
        have hi := hi.out
        have e0 := e0.out
        generalize m k = mk at hi e0
        go_wp2_with (go_at_call 52; refine (HC.out _ _).mono ?_; rintro e wx ⟨rfl, hwx⟩; have hwy := hwx.symm; clear hwx; subst hwy)
        go_roundw
        case rel => exact ⟨k + 1, by omega, by go_num, H1, hx⟩
        case measure => simp [intOf]; omega
    · have hk9 : k = 9 := by omega
      subst hk9
      have e1 : R = 0 := HG.out hok.out
      subst e1
      clear HB HG HI hok
      go_wp2_with fail
      go_ret
      exact ⟨rfl, hx⟩

/-! Ca1 -/
theorem cmpOr3 (a b c r : Int) (g : Nat) (w : World) (h : HV w g [.int .i64 a, .int .i64 b, .int .i64 c]) (hr : r = if a ≠ 0 then a else if b ≠ 0 then b else c) :
    Calls Try.prog 30 #[.slice (some ⟨g, 0, none⟩) 3 3] w fun e w' => e = .returned (.int .i64 r) ∧ Ext w w' := by
  refine (cmpOr_any 3 g (fun i => if i = 0 then a else if i = 1 then b else c) w (by omega) (fun i hi => ?_)).mono ?_
  · obtain rfl | rfl | rfl : i = 0 ∨ i = 1 ∨ i = 2 := by omega
    · exact ⟨h.c 0 rfl, h.1⟩
    · exact ⟨h.c 1 rfl, h.1⟩
    · exact ⟨h.c 2 rfl, h.1⟩
  · rintro e w1 ⟨⟨s, rfl, hs⟩, x1⟩
    refine ⟨?_, x1⟩
    have : s = r := by
      rcases hs with ⟨k, hk, h1, h2, rfl⟩ | ⟨h1, rfl⟩
      · obtain rfl | rfl | rfl : k = 0 ∨ k = 1 ∨ k = 2 := by omega
        · have g0 : a ≠ 0 := h2
          rw [hr]; simp_all
        · have g0 : a = 0 := h1 0 (by omega)
          have g1 : b ≠ 0 := h2
          rw [hr]; simp_all
        · have g0 : a = 0 := h1 0 (by omega)
          have g1 : b = 0 := h1 1 (by omega)
          have g2 : c ≠ 0 := h2
          rw [hr]; simp_all
      · have g0 : a = 0 := h1 0 (by omega)
        have g1 : b = 0 := h1 1 (by omega)
        have g2 : c = 0 := h1 2 (by omega)
        rw [hr]; simp_all
    rw [this]
/-- a calibration's cells -/
abbrev calL (b0 b1 b2 h0 h1 h2 rf : Int) (m : Nat → Int) : List Value := [.int .i64 b0, .int .i64 b1, .int .i64 b2, .int .i64 h0, .int .i64 h1, .int .i64 h2, .int .i64 rf, .int .i64 (m 0), .int .i64 (m 1), .int .i64 (m 2), .int .i64 (m 3), .int .i64 (m 4), .int .i64 (m 5), .int .i64 (m 6), .int .i64 (m 7), .int .i64 (m 8)]
/-- a calibration that may be -/
def okC (b0 b1 b2 h0 h1 h2 rf : Int) (m : Nat → Int) : Bool := inn rf (-128) 127 && (ok3 b0 b1 b2 && (ok3 h0 h1 h2 && okM m))
def chkC (b0 b1 b2 h0 h1 h2 rf : Int) (m : Nat → Int) : Int := if okC b0 b1 b2 h0 h1 h2 rf m then 0 else 1
theorem chkC_or (b0 b1 b2 h0 h1 h2 rf : Int) (m : Nat → Int) (h : inn rf (-128) 127 = true) : chkC b0 b1 b2 h0 h1 h2 rf m = if chk3 b0 b1 b2 ≠ 0 then chk3 b0 b1 b2 else if chk3 h0 h1 h2 ≠ 0 then chk3 h0 h1 h2 else chkM m := by
  unfold chkC okC chk3 chkM
  rw [h]
  cases ok3 b0 b1 b2 <;> cases ok3 h0 h1 h2 <;> cases okM m <;> rfl
set_option maxRecDepth 20000 in
set_option maxHeartbeats 8000000 in
theorem cCheck_any (b0 b1 b2 h0 h1 h2 rf : Int) (m : Nat → Int) (w : World) :
    Calls Try.prog 12 #[.agg #[.int .i64 b0, .int .i64 b1, .int .i64 b2, .int .i64 h0, .int .i64 h1, .int .i64 h2, .int .i64 rf, .int .i64 (m 0), .int .i64 (m 1), .int .i64 (m 2), .int .i64 (m 3), .int .i64 (m 4), .int .i64 (m 5), .int .i64 (m 6), .int .i64 (m 7), .int .i64 (m 8)]] w fun e w' => e = .returned (.int .i64 (chkC b0 b1 b2 h0 h1 h2 rf m)) ∧ Ext w w' := by
  have HT : Hid (∀ w, Calls Try.prog 29 #[.int .i64 rf] w fun e w' => e = .returned (.bool (inn rf (-128) 127)) ∧ w' = w) := istemp_any rf
  have HB : Hid (∀ w, Calls Try.prog 31 #[.agg #[.int .i64 b0, .int .i64 b1, .int .i64 b2]] w fun e w' => e = .returned (.int .i64 (chk3 b0 b1 b2)) ∧ Ext w w') := vCheck_any b0 b1 b2
  have HH : Hid (∀ w, Calls Try.prog 31 #[.agg #[.int .i64 h0, .int .i64 h1, .int .i64 h2]] w fun e w' => e = .returned (.int .i64 (chk3 h0 h1 h2)) ∧ Ext w w') := vCheck_any h0 h1 h2
  have HM : Hid (∀ w, Calls Try.prog 32 #[.agg #[.int .i64 (m 0), .int .i64 (m 1), .int .i64 (m 2), .int .i64 (m 3), .int .i64 (m 4), .int .i64 (m 5), .int .i64 (m 6), .int .i64 (m 7), .int .i64 (m 8)]] w fun e w' => e = .returned (.int .i64 (chkM m)) ∧ Ext w w') := checkm_any m
  have HO : Hid (inn rf (-128) 127 = true → ∀ g w', HV w' g [.int .i64 (chk3 b0 b1 b2), .int .i64 (chk3 h0 h1 h2), .int .i64 (chkM m)] → Calls Try.prog 30 #[.slice (some ⟨g, 0, none⟩) 3 3] w' fun e w'' => e = .returned (.int .i64 (chkC b0 b1 b2 h0 h1 h2 rf m)) ∧ Ext w' w'') := fun ht g w' h => cmpOr3 _ _ _ _ g w' h (chkC_or b0 b1 b2 h0 h1 h2 rf m ht)
  have HN : Hid (inn rf (-128) 127 = false → chkC b0 b1 b2 h0 h1 h2 rf m = 1) := fun h => by unfold chkC okC; rw [h]; rfl
  generalize chkC b0 b1 b2 h0 h1 h2 rf m = R at *
  generalize chk3 b0 b1 b2 = c0 at *
  generalize chk3 h0 h1 h2 = c1 at *
  generalize chkM m = c2 at *
  have BB0 : Hid (HV (w.alloc (.cells #[.int .i64 b0, .int .i64 b1, .int .i64 b2, .int .i64 h0, .int .i64 h1, .int .i64 h2, .int .i64 rf, .int .i64 (m 0), .int .i64 (m 1), .int .i64 (m 2), .int .i64 (m 3), .int .i64 (m 4), .int .i64 (m 5), .int .i64 (m 6), .int .i64 (m 7), .int .i64 (m 8)] 27)) w.heap.size [.int .i64 b0, .int .i64 b1, .int .i64 b2, .int .i64 h0, .int .i64 h1, .int .i64 h2, .int .i64 rf, .int .i64 (m 0), .int .i64 (m 1), .int .i64 (m 2), .int .i64 (m 3), .int .i64 (m 4), .int .i64 (m 5), .int .i64 (m 6), .int .i64 (m 7), .int .i64 (m 8)]) := hv_at rfl
  have hx0 : Hid (Ext w (w.alloc (.cells #[.int .i64 b0, .int .i64 b1, .int .i64 b2, .int .i64 h0, .int .i64 h1, .int .i64 h2, .int .i64 rf, .int .i64 (m 0), .int .i64 (m 1), .int .i64 (m 2), .int .i64 (m 3), .int .i64 (m 4), .int .i64 (m 5), .int .i64 (m 6), .int .i64 (m 7), .int .i64 (m 8)] 27))) := (Ext.refl w).alloc _
  cases hp : inn rf (-128) 127
  · rw [hp] at HT
    have e1 := HN.out hp
    subst e1
    clear hp HO HN
    go_enter Try.func12, Try.ntmps12
    go_wp2_with (go_at_call 29; refine (HT.out _).mono ?_; rintro e wx ⟨rfl, hwx⟩; have hwy := hwx.symm; clear hwx; subst hwy)
    go_ret
    exact ⟨rfl, hx0.out⟩
  · rw [hp] at HT
    have HO' : Hid (∀ g w', HV w' g [.int .i64 c0, .int .i64 c1, .int .i64 c2] → Calls Try.prog 30 #[.slice (some ⟨g, 0, none⟩) 3 3] w' fun e w'' => e = .returned (.int .i64 R) ∧ Ext w' w'') := HO.out hp
    clear hp HO HN
    go_enter Try.func12, Try.ntmps12
    go_upto_region 3 with (go_at_call 29; refine (HT.out _).mono ?_; rintro e wx ⟨rfl, hwx⟩; have hwy := hwx.symm; clear hwx; subst hwy)
    generalize (w.alloc (.cells #[.int .i64 b0, .int .i64 b1, .int .i64 b2, .int .i64 h0, .int .i64 h1, .int .i64 h2, .int .i64 rf, .int .i64 (m 0), .int .i64 (m 1), .int .i64 (m 2), .int .i64 (m 3), .int .i64 (m 4), .int .i64 (m 5), .int .i64 (m 6), .int .i64 (m 7), .int .i64 (m 8)] 27)) = wB at *
    obtain ⟨k0, k1, k2, k3, k4, k5, k6, k7, k8, k9, k10, k11, k12, k13, k14, k15⟩ := BB0.out.k16
    have R0 : wB.rangeAt w.heap.size 7 [.int .i64 (m 0), .int .i64 (m 1), .int .i64 (m 2), .int .i64 (m 3), .int .i64 (m 4), .int .i64 (m 5), .int .i64 (m 6), .int .i64 (m 7), .int .i64 (m 8)] := BB0.out.rng 7
    have hu9 : Try.prog.underlying 25 = some (.array 9 2) := by kernel_rfl
    have hs9 : (Try.prog.info? 25).map (·.size) = some ([.int .i64 (m 0), .int .i64 (m 1), .int .i64 (m 2), .int .i64 (m 3), .int .i64 (m 4), .int .i64 (m 5), .int .i64 (m 6), .int .i64 (m 7), .int .i64 (m 8)] : List Value).length := by kernel_rfl
    go_region_held3 (fun w' => w'.cell? ⟨w.heap.size, 0, none⟩ = some (.int .i64 b0) ∧ w'.cell? ⟨w.heap.size, 1, none⟩ = some (.int .i64 b1) ∧ w'.cell? ⟨w.heap.size, 2, none⟩ = some (.int .i64 b2) ∧ w'.cell? ⟨w.heap.size, 3, none⟩ = some (.int .i64 h0) ∧ w'.cell? ⟨w.heap.size, 4, none⟩ = some (.int .i64 h1) ∧ w'.cell? ⟨w.heap.size, 5, none⟩ = some (.int .i64 h2) ∧ w'.rangeAt w.heap.size 7 [.int .i64 (m 0), .int .i64 (m 1), .int .i64 (m 2), .int .i64 (m 3), .int .i64 (m 4), .int .i64 (m 5), .int .i64 (m 6), .int .i64 (m 7), .int .i64 (m 8)]) (first | (simp [*, World.cell?_alloc_some, World.rangeAt_alloc]; done) | skip) (first | (go_at_call_of 31 (Value.agg #[.int .i64 b0, .int .i64 b1, .int .i64 b2]); refine (HB.out _).mono ?_; rintro e w1 ⟨rfl, x1⟩; have Y1 : Ext wB w1 := Ext.trans (by repeat (first | with_reducible assumption | with_reducible exact Ext.refl _ | with_reducible refine Ext.drew ?_ | with_reducible refine Ext.drewN ?_ _ | with_reducible refine Ext.alloc ?_ _ | with_reducible refine Ext.set ?_ (by first | exact Nat.le_refl _ | (dsimp only; omega) | (simp; done)) _)) x1; have R1 : w1.rangeAt w.heap.size 7 [.int .i64 (m 0), .int .i64 (m 1), .int .i64 (m 2), .int .i64 (m 3), .int .i64 (m 4), .int .i64 (m 5), .int .i64 (m 6), .int .i64 (m 7), .int .i64 (m 8)] := (BB0.out.ext Y1).rng 7; obtain ⟨s1_0, s1_1, s1_2, s1_3, s1_4, s1_5, s1_6, s1_7, s1_8, s1_9, s1_10, s1_11, s1_12, s1_13, s1_14, s1_15⟩ := (BB0.out.ext Y1).k16) | (go_at_call_of 31 (Value.agg #[.int .i64 h0, .int .i64 h1, .int .i64 h2]); refine (HH.out _).mono ?_; rintro e w2 ⟨rfl, x2⟩; have Y2 : Ext wB w2 := Ext.trans (by repeat (first | with_reducible assumption | with_reducible exact Ext.refl _ | with_reducible refine Ext.drew ?_ | with_reducible refine Ext.drewN ?_ _ | with_reducible refine Ext.alloc ?_ _ | with_reducible refine Ext.set ?_ (by first | exact Nat.le_refl _ | (dsimp only; omega) | (simp; done)) _)) x2; have R2 : w2.rangeAt w.heap.size 7 [.int .i64 (m 0), .int .i64 (m 1), .int .i64 (m 2), .int .i64 (m 3), .int .i64 (m 4), .int .i64 (m 5), .int .i64 (m 6), .int .i64 (m 7), .int .i64 (m 8)] := (BB0.out.ext Y2).rng 7; obtain ⟨s2_0, s2_1, s2_2, s2_3, s2_4, s2_5, s2_6, s2_7, s2_8, s2_9, s2_10, s2_11, s2_12, s2_13, s2_14, s2_15⟩ := (BB0.out.ext Y2).k16) | (go_at_call 32; refine (HM.out _).mono ?_; rintro e w3 ⟨rfl, x3⟩; have Y3 : Ext wB w3 := Ext.trans (by repeat (first | with_reducible assumption | with_reducible exact Ext.refl _ | with_reducible refine Ext.drew ?_ | with_reducible refine Ext.drewN ?_ _ | with_reducible refine Ext.alloc ?_ _ | with_reducible refine Ext.set ?_ (by first | exact Nat.le_refl _ | (dsimp only; omega) | (simp; done)) _)) x3; have R3 : w3.rangeAt w.heap.size 7 [.int .i64 (m 0), .int .i64 (m 1), .int .i64 (m 2), .int .i64 (m 3), .int .i64 (m 4), .int .i64 (m 5), .int .i64 (m 6), .int .i64 (m 7), .int .i64 (m 8)] := (BB0.out.ext Y3).rng 7; obtain ⟨s3_0, s3_1, s3_2, s3_3, s3_4, s3_5, s3_6, s3_7, s3_8, s3_9, s3_10, s3_11, s3_12, s3_13, s3_14, s3_15⟩ := (BB0.out.ext Y3).k16) | (go_at_call 30; refine (HO'.out _ _ (hv_at rfl)).mono ?_; rintro e w4 ⟨rfl, x4⟩; have Y4 : Ext wB w4 := Ext.trans (by repeat (first | with_reducible assumption | with_reducible exact Ext.refl _ | with_reducible refine Ext.drew ?_ | with_reducible refine Ext.drewN ?_ _ | with_reducible refine Ext.alloc ?_ _ | with_reducible refine Ext.set ?_ (by first | exact Nat.le_refl _ | (dsimp only; omega) | (simp; done)) _)) x4; have R4 : w4.rangeAt w.heap.size 7 [.int .i64 (m 0), .int .i64 (m 1), .int .i64 (m 2), .int .i64 (m 3), .int .i64 (m 4), .int .i64 (m 5), .int .i64 (m 6), .int .i64 (m 7), .int .i64 (m 8)] := (BB0.out.ext Y4).rng 7; obtain ⟨s4_0, s4_1, s4_2, s4_3, s4_4, s4_5, s4_6, s4_7, s4_8, s4_9, s4_10, s4_11, s4_12, s4_13, s4_14, s4_15⟩ := (BB0.out.ext Y4).k16))
    all_goals
      have X4 : Ext w w4 := hx0.out.trans Y4
      go_wp2_with fail
      go_ret
      exact ⟨rfl, X4⟩

/-! Ca2 -/
set_option maxRecDepth 20000 in
set_option maxHeartbeats 8000000 in
theorem sum64_off (n A B oa ob ca cb : Nat) (X Y Z : Nat → Int) (w : World) (hn : n ≤ 4)
    (HA : Hid (∀ i, i < n → w.cell? ⟨A, oa + i, none⟩ = some (.int .i64 (X i)) ∧ A < w.heap.size))
    (HB : Hid (∀ i, i < n → w.cell? ⟨B, ob + i, none⟩ = some (.int .i64 (Y i)) ∧ B < w.heap.size))
    (HT : Hid (∀ i w', i < n → Calls Try.prog 47 #[.int .i64 (X i), .int .i64 (Y i)] w' fun e w'' => (∃ r, e = .returned r ∧ IsW r (Z i)) ∧ Ext w' w''))
    (HP : Hid (∀ u v p q w', IsW u p → IsW v q → Calls Try.prog 62 #[u, v] w' fun e w'' => (∃ r, e = .returned r ∧ IsW r (p + q)) ∧ Ext w' w'')) :
    Calls Try.prog 46 #[.slice (some ⟨A, oa, none⟩) n ca, .slice (some ⟨B, ob, none⟩) n cb, .func (.func 47) #[] #[]] w fun e w' => (∃ r, e = .returned r ∧ IsW r (sumTo Z n)) ∧ Ext w w' := by
  go_enter Try.func46, Try.ntmps46
  go_wp2_with fail
  go_loopw [13] (fun i wr => ∃ k : Nat, k ≤ n ∧ i = .int .i64 (k : Int) ∧ ∃ t0 t1 t2 : Int, H3 wr (w.heap.size + 1) (.int .u64 t0) (.int .u64 t1) (.int .u64 t2) ∧ IsW (.agg #[.int .u64 t0, .int .u64 t1, .int .u64 t2]) (sumTo Z k) ∧ H3 wr w.heap.size (.int .u64 0) (.int .u64 0) (.int .u64 0) ∧ Ext w wr) (fun i _ => n - (intOf i).toNat)
  case atStart => exact ⟨0, by omega, rfl, 0, 0, 0, h3_at (by simp), isW_of rfl rfl rfl, H3.alloc (h3_at rfl) _, by repeat (first | with_reducible assumption | with_reducible exact Ext.refl _ | with_reducible refine Ext.drew ?_ | with_reducible refine Ext.drewN ?_ _ | with_reducible refine Ext.alloc ?_ _ | with_reducible refine Ext.set ?_ (by first | exact Nat.le_refl _ | (dsimp only; omega) | (simp; done)) _)⟩
  case round =>
    obtain ⟨k, hk, rfl, t0, t1, t2, TB, hT0, RB, hx⟩ := hrel
    have hT : Hid (IsW (.agg #[.int .u64 t0, .int .u64 t1, .int .u64 t2]) (sumTo Z k)) := hT0
    clear hT0
    by_cases hlt : k < n
    · have kx : (k : Int) < (n : Int) := by omega
      have TT : Hid (H3 wr (w.heap.size + 1) (.int .u64 t0) (.int .u64 t1) (.int .u64 t2)) := TB
      have RR : Hid (H3 wr w.heap.size (.int .u64 0) (.int .u64 0) (.int .u64 0)) := RB
      obtain ⟨hcx, hax⟩ := HA.out k hlt
      have hcx := ((hx.lay).1 A (oa + k) hax).trans hcx
      obtain ⟨hcy, hay⟩ := HB.out k hlt
      have hcy := ((hx.lay).1 B (ob + k) hay).trans hcy
      have PT : Hid _ := fun w' => HT.out k w' hlt
      obtain ⟨c0, c1, c2, c3, c4, c5, c6⟩ := TB
      clear HA HB HT
      go_wp2_with fail
      go_region_with (first | (go_at_call 47; refine (PT.out _).mono ?_; rintro e w1 ⟨⟨u1, rfl, hu1⟩, x1⟩; have y1 : Ext wr.drew w1 := Ext.trans (by repeat (first | with_reducible assumption | with_reducible exact Ext.refl _ | with_reducible refine Ext.drew ?_ | with_reducible refine Ext.drewN ?_ _ | with_reducible refine Ext.alloc ?_ _ | with_reducible refine Ext.set ?_ (by first | exact Nat.le_refl _ | (dsimp only; omega) | (simp; done)) _)) x1; obtain ⟨c0, c1, c2, c3, c4, c5, c6⟩ := TT.out.drew.ext y1) | (go_at_call 62; refine (HP.out _ _ _ _ _ hT.out hu1).mono ?_; rintro e w2 ⟨⟨u2, rfl, s0, s1, s2, rfl, hs⟩, x2⟩; have HSs : Hid _ := hs; clear hs; have y2 : Ext wr.drew w2 := y1.trans x2; obtain ⟨c0, c1, c2, c3, c4, c5, c6⟩ := TT.out.drew.ext y2))
      all_goals
        have T2 := TT.out.drew.ext y2
        have R2 := RR.out.drew.ext y2
        have X2 : Ext w w2 := Ext.trans hx.drew y2
        clear y2 x1 x2 y1 hx
        go_wp2_with fail
        go_roundw
        case rel => exact ⟨k + 1, by omega, by go_num, _, _, _, T2.set3 _ _ _, isW_of HSs.out.1 HSs.out.2.1 HSs.out.2.2, R2.far3 (by omega), by clear T2 R2; repeat (first | with_reducible assumption | with_reducible exact Ext.refl _ | with_reducible refine Ext.drew ?_ | with_reducible refine Ext.drewN ?_ _ | with_reducible refine Ext.alloc ?_ _ | with_reducible refine Ext.set ?_ (by first | exact Nat.le_refl _ | (dsimp only; omega) | (simp; done)) _)⟩
        case measure => simp [intOf]; omega
    · have hkn : k = n := by omega
      subst hkn
      obtain ⟨c0, c1, c2, c3, c4, c5, c6⟩ := TB
      obtain ⟨r0, r1, r2, r3, r4, r5, r6⟩ := RB
      go_wp2_with fail
      exact bodyPost_ret (v := .agg #[.int .u64 t0, .int .u64 t1, .int .u64 t2]) (by simp [results, Try.results46, go_sem, r0, r1, r2]) rfl ⟨⟨_, rfl, hT.out⟩, by repeat (first | with_reducible assumption | with_reducible exact Ext.refl _ | with_reducible refine Ext.drew ?_ | with_reducible refine Ext.drewN ?_ _ | with_reducible refine Ext.alloc ?_ _ | with_reducible refine Ext.set ?_ (by first | exact Nat.le_refl _ | (dsimp only; omega) | (simp; done)) _)⟩

/-- a row of the matrix times u -/
def rowU (m u : Nat → Int) (i : Nat) : Int := sumTo (fun j => u j * m (3 * i + j)) 3
theorem rowU_eq (m u : Nat → Int) (i : Nat) : rowU m u i = u 0 * m (3 * i) + u 1 * m (3 * i + 1) + u 2 * m (3 * i + 2) := by
  unfold rowU; simp only [sumTo, Nat.add_zero, Int.zero_add]
theorem mul_bound {a b A B : Int} (h1 : -A ≤ a) (h2 : a ≤ A) (k1 : -B ≤ b) (k2 : b ≤ B) : -(A * B) ≤ a * b ∧ a * b ≤ A * B := by
  have hA : 0 ≤ A := by omega
  have hB : 0 ≤ B := by omega
  have h3 : (a * b).natAbs ≤ A.natAbs * B.natAbs := by
    rw [Int.natAbs_mul]
    exact Nat.mul_le_mul (by omega) (by omega)
  have h4 : ((A.natAbs * B.natAbs : Nat) : Int) = A * B := by
    rw [Int.natCast_mul, Int.natAbs_of_nonneg hA, Int.natAbs_of_nonneg hB]
  omega
theorem rowU_bound (m u : Nat → Int) (i : Nat) (hi : i < 3) (hm : ∀ k, k < 9 → okW (m k) = true) (hu : ∀ j, j < 3 → -36028797018963968 ≤ u j ∧ u j ≤ 36028797018963968) :
    -3802951800684688204490109616128 ≤ rowU m u i ∧ rowU m u i ≤ 3802951800684688204490109616128 := by
  rw [rowU_eq]
  have b0 := okW_bounds (hm (3 * i) (by omega))
  have b1 := okW_bounds (hm (3 * i + 1) (by omega))
  have b2 := okW_bounds (hm (3 * i + 2) (by omega))
  have p0 := mul_bound (A := 36028797018963968) (B := 35184372088832) (hu 0 (by omega)).1 (hu 0 (by omega)).2 (b := m (3 * i)) (by omega) (by omega)
  have p1 := mul_bound (A := 36028797018963968) (B := 35184372088832) (hu 1 (by omega)).1 (hu 1 (by omega)).2 (b := m (3 * i + 1)) (by omega) (by omega)
  have p2 := mul_bound (A := 36028797018963968) (B := 35184372088832) (hu 2 (by omega)).1 (hu 2 (by omega)).2 (b := m (3 * i + 2)) (by omega) (by omega)
  omega
/-- one row: summed, rounded, told -/
theorem row_calls (m u : Nat → Int) (i : Nat) (hi : i < 3) (hm : ∀ k, k < 9 → okW (m k) = true) (hu : ∀ j, j < 3 → -36028797018963968 ≤ u j ∧ u j ≤ 36028797018963968) :
    (∀ (gm gu cc : Nat) (w : World), HV w gm [.int .i64 (m 0), .int .i64 (m 1), .int .i64 (m 2), .int .i64 (m 3), .int .i64 (m 4), .int .i64 (m 5), .int .i64 (m 6), .int .i64 (m 7), .int .i64 (m 8)] → HV w gu [.int .i64 (u 0), .int .i64 (u 1), .int .i64 (u 2)] → Calls Try.prog 46 #[.slice (some ⟨gu, 0, none⟩) 3 3, .slice (some ⟨gm, 3 * i, none⟩) 3 cc, .func (.func 47) #[] #[]] w fun e w' => (∃ r, e = .returned r ∧ IsW r (rowU m u i)) ∧ Ext w w') ∧
    (∀ v w, IsW v (rowU m u i) → Calls Try.prog 48 #[v, .int .i64 30] w fun e w' => (∃ r, e = .returned r ∧ IsW r (nearQ (rowU m u i))) ∧ Ext w w') ∧
    (∀ v w, IsW v (nearQ (rowU m u i)) → Calls Try.prog 49 #[v] w fun e w' => e = .returned (.tuple #[.int .i64 (fitR (nearQ (rowU m u i))).1, .int .i64 (fitR (nearQ (rowU m u i))).2]) ∧ Ext w w') := by
  have hb := rowU_bound m u i hi hm hu
  refine ⟨fun gm gu cc w h1 h2 => ?_, fun v w hv => ?_, fun v w hv => ?_⟩
  · refine sum64_off 3 gu gm 0 (3 * i) 3 cc u (fun j => m (3 * i + j)) (fun j => u j * m (3 * i + j)) w (by omega) (fun j hj => ?_) (fun j hj => ?_) (fun j w' hj => ?_) (fun a b p q w' ha hb => plus_any p q a b w' ha hb)
    · rw [Nat.zero_add]
      refine ⟨h2.c j ?_, h2.1⟩
      match j, hj with
      | 0, _ => rfl
      | 1, _ => rfl
      | 2, _ => rfl
    · refine ⟨h1.c (3 * i + j) ?_, h1.1⟩
      have hk : 3 * i + j < 9 := by omega
      generalize 3 * i + j = k at hk
      match k, hk with
      | 0, _ => rfl
      | 1, _ => rfl
      | 2, _ => rfl
      | 3, _ => rfl
      | 4, _ => rfl
      | 5, _ => rfl
      | 6, _ => rfl
      | 7, _ => rfl
      | 8, _ => rfl
    · have b := okW_bounds (hm (3 * i + j) (by omega))
      have c := hu j hj
      exact productw_any (u j) (m (3 * i + j)) w' (by omega) (by omega) (by omega) (by omega)
  · exact nearestw_any _ v w hv (by unfold InW; omega) (by unfold InW; omega)
  · refine wordw_any _ v w hv ?_
    have : -3802951800684688204490109616128 - 1 ≤ nearQ (rowU m u i) ∧ nearQ (rowU m u i) ≤ 3802951800684688204490109616128 + 1 := by
      generalize rowU m u i = z at hb
      unfold nearQ oddQ
      omega
    unfold InW
    omega

set_option maxRecDepth 20000 in
set_option maxHeartbeats 8000000 in
theorem image_any (m u : Nat → Int) (w : World) (hm : ∀ k, k < 9 → okW (m k) = true) (hu : ∀ j, j < 3 → -36028797018963968 ≤ u j ∧ u j ≤ 36028797018963968) :
    Calls Try.prog 27 #[.agg #[.int .i64 (m 0), .int .i64 (m 1), .int .i64 (m 2), .int .i64 (m 3), .int .i64 (m 4), .int .i64 (m 5), .int .i64 (m 6), .int .i64 (m 7), .int .i64 (m 8)], .agg #[.int .i64 (u 0), .int .i64 (u 1), .int .i64 (u 2)]] w fun e w' => e = .returned (vres (nearQ (rowU m u 0)) (nearQ (rowU m u 1)) (nearQ (rowU m u 2))) ∧ Ext w w' := by
  obtain ⟨S0, N0, W0⟩ := row_calls m u 0 (by omega) hm hu
  have S0 : Hid (∀ (gm gu cc : Nat) (w : World), HV w gm [.int .i64 (m 0), .int .i64 (m 1), .int .i64 (m 2), .int .i64 (m 3), .int .i64 (m 4), .int .i64 (m 5), .int .i64 (m 6), .int .i64 (m 7), .int .i64 (m 8)] → HV w gu [.int .i64 (u 0), .int .i64 (u 1), .int .i64 (u 2)] → Calls Try.prog 46 #[.slice (some ⟨gu, 0, none⟩) 3 3, .slice (some ⟨gm, 0, none⟩) 3 cc, .func (.func 47) #[] #[]] w fun e w' => (∃ r, e = .returned r ∧ IsW r (rowU m u 0)) ∧ Ext w w') := S0
  have N0 : Hid _ := N0
  have W0 : Hid _ := W0
  obtain ⟨S1, N1, W1⟩ := row_calls m u 1 (by omega) hm hu
  have S1 : Hid (∀ (gm gu cc : Nat) (w : World), HV w gm [.int .i64 (m 0), .int .i64 (m 1), .int .i64 (m 2), .int .i64 (m 3), .int .i64 (m 4), .int .i64 (m 5), .int .i64 (m 6), .int .i64 (m 7), .int .i64 (m 8)] → HV w gu [.int .i64 (u 0), .int .i64 (u 1), .int .i64 (u 2)] → Calls Try.prog 46 #[.slice (some ⟨gu, 0, none⟩) 3 3, .slice (some ⟨gm, 3, none⟩) 3 cc, .func (.func 47) #[] #[]] w fun e w' => (∃ r, e = .returned r ∧ IsW r (rowU m u 1)) ∧ Ext w w') := S1
  have N1 : Hid _ := N1
  have W1 : Hid _ := W1
  obtain ⟨S2, N2, W2⟩ := row_calls m u 2 (by omega) hm hu
  have S2 : Hid (∀ (gm gu cc : Nat) (w : World), HV w gm [.int .i64 (m 0), .int .i64 (m 1), .int .i64 (m 2), .int .i64 (m 3), .int .i64 (m 4), .int .i64 (m 5), .int .i64 (m 6), .int .i64 (m 7), .int .i64 (m 8)] → HV w gu [.int .i64 (u 0), .int .i64 (u 1), .int .i64 (u 2)] → Calls Try.prog 46 #[.slice (some ⟨gu, 0, none⟩) 3 3, .slice (some ⟨gm, 6, none⟩) 3 cc, .func (.func 47) #[] #[]] w fun e w' => (∃ r, e = .returned r ∧ IsW r (rowU m u 2)) ∧ Ext w w') := S2
  have N2 : Hid _ := N2
  have W2 : Hid _ := W2
  rw [← thr_fit]
  clear hm hu
  generalize nearQ (rowU m u 0) = q0 at *
  generalize rowU m u 0 = p0 at *
  generalize nearQ (rowU m u 1) = q1 at *
  generalize rowU m u 1 = p1 at *
  generalize nearQ (rowU m u 2) = q2 at *
  generalize rowU m u 2 = p2 at *
  generalize (fitR q0).1 = r0 at *
  generalize (fitR q0).2 = e0 at *
  generalize (fitR q1).1 = r1 at *
  generalize (fitR q1).2 = e1 at *
  generalize (fitR q2).1 = r2 at *
  generalize (fitR q2).2 = e2 at *
  have HM : Hid (HV ((((w.alloc (.cells #[.int .i64 (m 0), .int .i64 (m 1), .int .i64 (m 2), .int .i64 (m 3), .int .i64 (m 4), .int .i64 (m 5), .int .i64 (m 6), .int .i64 (m 7), .int .i64 (m 8)] 25)).alloc (.cells #[.int .i64 (u 0), .int .i64 (u 1), .int .i64 (u 2)] 55)).alloc (.cells #[.int .i64 0, .int .i64 0, .int .i64 0] 24)).alloc (.cells #[.int .i64 0, .int .i64 0, .int .i64 0] 55)) w.heap.size [.int .i64 (m 0), .int .i64 (m 1), .int .i64 (m 2), .int .i64 (m 3), .int .i64 (m 4), .int .i64 (m 5), .int .i64 (m 6), .int .i64 (m 7), .int .i64 (m 8)]) := (((hv_at rfl).alloc _).alloc _).alloc _
  have HU : Hid (HV ((((w.alloc (.cells #[.int .i64 (m 0), .int .i64 (m 1), .int .i64 (m 2), .int .i64 (m 3), .int .i64 (m 4), .int .i64 (m 5), .int .i64 (m 6), .int .i64 (m 7), .int .i64 (m 8)] 25)).alloc (.cells #[.int .i64 (u 0), .int .i64 (u 1), .int .i64 (u 2)] 55)).alloc (.cells #[.int .i64 0, .int .i64 0, .int .i64 0] 24)).alloc (.cells #[.int .i64 0, .int .i64 0, .int .i64 0] 55)) (w.heap.size + 1) [.int .i64 (u 0), .int .i64 (u 1), .int .i64 (u 2)]) := ((hv_at (by simp)).alloc _).alloc _
  have HR : Hid (HV ((((w.alloc (.cells #[.int .i64 (m 0), .int .i64 (m 1), .int .i64 (m 2), .int .i64 (m 3), .int .i64 (m 4), .int .i64 (m 5), .int .i64 (m 6), .int .i64 (m 7), .int .i64 (m 8)] 25)).alloc (.cells #[.int .i64 (u 0), .int .i64 (u 1), .int .i64 (u 2)] 55)).alloc (.cells #[.int .i64 0, .int .i64 0, .int .i64 0] 24)).alloc (.cells #[.int .i64 0, .int .i64 0, .int .i64 0] 55)) (w.heap.size + 2) [.int .i64 0, .int .i64 0, .int .i64 0]) := (hv_at (by simp)).alloc _
  have HT : Hid (HV ((((w.alloc (.cells #[.int .i64 (m 0), .int .i64 (m 1), .int .i64 (m 2), .int .i64 (m 3), .int .i64 (m 4), .int .i64 (m 5), .int .i64 (m 6), .int .i64 (m 7), .int .i64 (m 8)] 25)).alloc (.cells #[.int .i64 (u 0), .int .i64 (u 1), .int .i64 (u 2)] 55)).alloc (.cells #[.int .i64 0, .int .i64 0, .int .i64 0] 24)).alloc (.cells #[.int .i64 0, .int .i64 0, .int .i64 0] 55)) (w.heap.size + 3) [.int .i64 0, .int .i64 0, .int .i64 0]) := hv_at (by simp)
  have HX : Hid (Ext w ((((w.alloc (.cells #[.int .i64 (m 0), .int .i64 (m 1), .int .i64 (m 2), .int .i64 (m 3), .int .i64 (m 4), .int .i64 (m 5), .int .i64 (m 6), .int .i64 (m 7), .int .i64 (m 8)] 25)).alloc (.cells #[.int .i64 (u 0), .int .i64 (u 1), .int .i64 (u 2)] 55)).alloc (.cells #[.int .i64 0, .int .i64 0, .int .i64 0] 24)).alloc (.cells #[.int .i64 0, .int .i64 0, .int .i64 0] 55))) := ((((Ext.refl w).alloc _).alloc _).alloc _).alloc _
  go_enter Try.func27, Try.ntmps27
  go_wp2_with fail
  generalize ((((w.alloc (.cells #[.int .i64 (m 0), .int .i64 (m 1), .int .i64 (m 2), .int .i64 (m 3), .int .i64 (m 4), .int .i64 (m 5), .int .i64 (m 6), .int .i64 (m 7), .int .i64 (m 8)] 25)).alloc (.cells #[.int .i64 (u 0), .int .i64 (u 1), .int .i64 (u 2)] 55)).alloc (.cells #[.int .i64 0, .int .i64 0, .int .i64 0] 24)).alloc (.cells #[.int .i64 0, .int .i64 0, .int .i64 0] 55)) = wa at *
  have lt3 : Hid (w.heap.size ≤ w.heap.size + 3) := Nat.le_add_right _ _
  have lt2 : Hid (w.heap.size ≤ w.heap.size + 2) := Nat.le_add_right _ _
  refine wp_loop_rounds 4 ?_
  rw [rounds_succ]
  go_wp2_with fail
  refine (S0.out _ _ _ _ HM.out HU.out).mono ?_
  rintro e wb0 ⟨⟨v0, rfl, hv0⟩, x⟩
  have HM : Hid (HV wb0 w.heap.size [.int .i64 (m 0), .int .i64 (m 1), .int .i64 (m 2), .int .i64 (m 3), .int .i64 (m 4), .int .i64 (m 5), .int .i64 (m 6), .int .i64 (m 7), .int .i64 (m 8)]) := HM.out.ext x
  have HU : Hid (HV wb0 (w.heap.size + 1) [.int .i64 (u 0), .int .i64 (u 1), .int .i64 (u 2)]) := HU.out.ext x
  have HR : Hid (HV wb0 (w.heap.size + 2) [.int .i64 0, .int .i64 0, .int .i64 0]) := HR.out.ext x
  have HT : Hid (HV wb0 (w.heap.size + 3) [.int .i64 0, .int .i64 0, .int .i64 0]) := HT.out.ext x
  have HX : Hid (Ext w wb0) := HX.out.trans x
  clear x
  have hv0 : Hid (IsW v0 p0) := hv0
  go_wp2_with fail
  refine (N0.out _ _ hv0.out).mono ?_
  rintro e wc0 ⟨⟨y0, rfl, hy0⟩, x⟩
  have HM : Hid (HV wc0 w.heap.size [.int .i64 (m 0), .int .i64 (m 1), .int .i64 (m 2), .int .i64 (m 3), .int .i64 (m 4), .int .i64 (m 5), .int .i64 (m 6), .int .i64 (m 7), .int .i64 (m 8)]) := HM.out.ext x
  have HU : Hid (HV wc0 (w.heap.size + 1) [.int .i64 (u 0), .int .i64 (u 1), .int .i64 (u 2)]) := HU.out.ext x
  have HR : Hid (HV wc0 (w.heap.size + 2) [.int .i64 0, .int .i64 0, .int .i64 0]) := HR.out.ext x
  have HT : Hid (HV wc0 (w.heap.size + 3) [.int .i64 0, .int .i64 0, .int .i64 0]) := HT.out.ext x
  have HX : Hid (Ext w wc0) := HX.out.trans x
  clear x
  have hy0 : Hid (IsW y0 q0) := hy0
  go_wp2_with fail
  refine (W0.out _ _ hy0.out).mono ?_
  rintro e wd0 ⟨rfl, x⟩
  have HM : Hid (HV wd0 w.heap.size [.int .i64 (m 0), .int .i64 (m 1), .int .i64 (m 2), .int .i64 (m 3), .int .i64 (m 4), .int .i64 (m 5), .int .i64 (m 6), .int .i64 (m 7), .int .i64 (m 8)]) := HM.out.ext x
  have HU : Hid (HV wd0 (w.heap.size + 1) [.int .i64 (u 0), .int .i64 (u 1), .int .i64 (u 2)]) := HU.out.ext x
  have HR : Hid (HV wd0 (w.heap.size + 2) [.int .i64 0, .int .i64 0, .int .i64 0]) := HR.out.ext x
  have HT : Hid (HV wd0 (w.heap.size + 3) [.int .i64 0, .int .i64 0, .int .i64 0]) := HT.out.ext x
  have HX : Hid (Ext w wd0) := HX.out.trans x
  clear x
  obtain ⟨z0, z1, z2⟩ := HR.out.k3
  obtain ⟨y0, y1, y2⟩ := HR.out.z3
  obtain ⟨t0, t1, t2⟩ := HT.out.k3
  obtain ⟨s0, s1, s2⟩ := HT.out.z3
  by_cases he0 : e0 = 0
  · subst he0
    go_wp2_with fail
    have HM : Hid (HV (wd0.setCell ⟨w.heap.size + 3, 0, none⟩ (.int .i64 r0)) w.heap.size [.int .i64 (m 0), .int .i64 (m 1), .int .i64 (m 2), .int .i64 (m 3), .int .i64 (m 4), .int .i64 (m 5), .int .i64 (m 6), .int .i64 (m 7), .int .i64 (m 8)]) := HM.out.far (by omega)
    have HU : Hid (HV (wd0.setCell ⟨w.heap.size + 3, 0, none⟩ (.int .i64 r0)) (w.heap.size + 1) [.int .i64 (u 0), .int .i64 (u 1), .int .i64 (u 2)]) := HU.out.far (by omega)
    have HR : Hid (HV (wd0.setCell ⟨w.heap.size + 3, 0, none⟩ (.int .i64 r0)) (w.heap.size + 2) [.int .i64 0, .int .i64 0, .int .i64 0]) := HR.out.far (by omega)
    have HT : Hid (HV (wd0.setCell ⟨w.heap.size + 3, 0, none⟩ (.int .i64 r0)) (w.heap.size + 3) [.int .i64 r0, .int .i64 0, .int .i64 0]) := HT.out.set 0 (.int .i64 r0)
    have HX : Hid (Ext w (wd0.setCell ⟨w.heap.size + 3, 0, none⟩ (.int .i64 r0))) := HX.out.set (p := ⟨w.heap.size + 3, 0, none⟩) lt3.out _
    clear z0 z1 z2 y0 y1 y2 t0 t1 t2 s0 s1 s2
    generalize (wd0.setCell ⟨w.heap.size + 3, 0, none⟩ (.int .i64 r0)) = we0 at *
    rw [rounds_succ]
    go_wp2_with fail
    refine (S1.out _ _ _ _ HM.out HU.out).mono ?_
    rintro e wb1 ⟨⟨v1, rfl, hv1⟩, x⟩
    have HM : Hid (HV wb1 w.heap.size [.int .i64 (m 0), .int .i64 (m 1), .int .i64 (m 2), .int .i64 (m 3), .int .i64 (m 4), .int .i64 (m 5), .int .i64 (m 6), .int .i64 (m 7), .int .i64 (m 8)]) := HM.out.ext x
    have HU : Hid (HV wb1 (w.heap.size + 1) [.int .i64 (u 0), .int .i64 (u 1), .int .i64 (u 2)]) := HU.out.ext x
    have HR : Hid (HV wb1 (w.heap.size + 2) [.int .i64 0, .int .i64 0, .int .i64 0]) := HR.out.ext x
    have HT : Hid (HV wb1 (w.heap.size + 3) [.int .i64 r0, .int .i64 0, .int .i64 0]) := HT.out.ext x
    have HX : Hid (Ext w wb1) := HX.out.trans x
    clear x
    have hv1 : Hid (IsW v1 p1) := hv1
    go_wp2_with fail
    refine (N1.out _ _ hv1.out).mono ?_
    rintro e wc1 ⟨⟨y1, rfl, hy1⟩, x⟩
    have HM : Hid (HV wc1 w.heap.size [.int .i64 (m 0), .int .i64 (m 1), .int .i64 (m 2), .int .i64 (m 3), .int .i64 (m 4), .int .i64 (m 5), .int .i64 (m 6), .int .i64 (m 7), .int .i64 (m 8)]) := HM.out.ext x
    have HU : Hid (HV wc1 (w.heap.size + 1) [.int .i64 (u 0), .int .i64 (u 1), .int .i64 (u 2)]) := HU.out.ext x
    have HR : Hid (HV wc1 (w.heap.size + 2) [.int .i64 0, .int .i64 0, .int .i64 0]) := HR.out.ext x
    have HT : Hid (HV wc1 (w.heap.size + 3) [.int .i64 r0, .int .i64 0, .int .i64 0]) := HT.out.ext x
    have HX : Hid (Ext w wc1) := HX.out.trans x
    clear x
    have hy1 : Hid (IsW y1 q1) := hy1
    go_wp2_with fail
    refine (W1.out _ _ hy1.out).mono ?_
    rintro e wd1 ⟨rfl, x⟩
    have HM : Hid (HV wd1 w.heap.size [.int .i64 (m 0), .int .i64 (m 1), .int .i64 (m 2), .int .i64 (m 3), .int .i64 (m 4), .int .i64 (m 5), .int .i64 (m 6), .int .i64 (m 7), .int .i64 (m 8)]) := HM.out.ext x
    have HU : Hid (HV wd1 (w.heap.size + 1) [.int .i64 (u 0), .int .i64 (u 1), .int .i64 (u 2)]) := HU.out.ext x
    have HR : Hid (HV wd1 (w.heap.size + 2) [.int .i64 0, .int .i64 0, .int .i64 0]) := HR.out.ext x
    have HT : Hid (HV wd1 (w.heap.size + 3) [.int .i64 r0, .int .i64 0, .int .i64 0]) := HT.out.ext x
    have HX : Hid (Ext w wd1) := HX.out.trans x
    clear x
    obtain ⟨z0, z1, z2⟩ := HR.out.k3
    obtain ⟨y0, y1, y2⟩ := HR.out.z3
    obtain ⟨t0, t1, t2⟩ := HT.out.k3
    obtain ⟨s0, s1, s2⟩ := HT.out.z3
    by_cases he1 : e1 = 0
    · subst he1
      go_wp2_with fail
      have HM : Hid (HV (wd1.setCell ⟨w.heap.size + 3, 1, none⟩ (.int .i64 r1)) w.heap.size [.int .i64 (m 0), .int .i64 (m 1), .int .i64 (m 2), .int .i64 (m 3), .int .i64 (m 4), .int .i64 (m 5), .int .i64 (m 6), .int .i64 (m 7), .int .i64 (m 8)]) := HM.out.far (by omega)
      have HU : Hid (HV (wd1.setCell ⟨w.heap.size + 3, 1, none⟩ (.int .i64 r1)) (w.heap.size + 1) [.int .i64 (u 0), .int .i64 (u 1), .int .i64 (u 2)]) := HU.out.far (by omega)
      have HR : Hid (HV (wd1.setCell ⟨w.heap.size + 3, 1, none⟩ (.int .i64 r1)) (w.heap.size + 2) [.int .i64 0, .int .i64 0, .int .i64 0]) := HR.out.far (by omega)
      have HT : Hid (HV (wd1.setCell ⟨w.heap.size + 3, 1, none⟩ (.int .i64 r1)) (w.heap.size + 3) [.int .i64 r0, .int .i64 r1, .int .i64 0]) := HT.out.set 1 (.int .i64 r1)
      have HX : Hid (Ext w (wd1.setCell ⟨w.heap.size + 3, 1, none⟩ (.int .i64 r1))) := HX.out.set (p := ⟨w.heap.size + 3, 1, none⟩) lt3.out _
      clear z0 z1 z2 y0 y1 y2 t0 t1 t2 s0 s1 s2
      generalize (wd1.setCell ⟨w.heap.size + 3, 1, none⟩ (.int .i64 r1)) = we1 at *
      rw [rounds_succ]
      go_wp2_with fail
      refine (S2.out _ _ _ _ HM.out HU.out).mono ?_
      rintro e wb2 ⟨⟨v2, rfl, hv2⟩, x⟩
      have HM : Hid (HV wb2 w.heap.size [.int .i64 (m 0), .int .i64 (m 1), .int .i64 (m 2), .int .i64 (m 3), .int .i64 (m 4), .int .i64 (m 5), .int .i64 (m 6), .int .i64 (m 7), .int .i64 (m 8)]) := HM.out.ext x
      have HU : Hid (HV wb2 (w.heap.size + 1) [.int .i64 (u 0), .int .i64 (u 1), .int .i64 (u 2)]) := HU.out.ext x
      have HR : Hid (HV wb2 (w.heap.size + 2) [.int .i64 0, .int .i64 0, .int .i64 0]) := HR.out.ext x
      have HT : Hid (HV wb2 (w.heap.size + 3) [.int .i64 r0, .int .i64 r1, .int .i64 0]) := HT.out.ext x
      have HX : Hid (Ext w wb2) := HX.out.trans x
      clear x
      have hv2 : Hid (IsW v2 p2) := hv2
      go_wp2_with fail
      refine (N2.out _ _ hv2.out).mono ?_
      rintro e wc2 ⟨⟨y2, rfl, hy2⟩, x⟩
      have HM : Hid (HV wc2 w.heap.size [.int .i64 (m 0), .int .i64 (m 1), .int .i64 (m 2), .int .i64 (m 3), .int .i64 (m 4), .int .i64 (m 5), .int .i64 (m 6), .int .i64 (m 7), .int .i64 (m 8)]) := HM.out.ext x
      have HU : Hid (HV wc2 (w.heap.size + 1) [.int .i64 (u 0), .int .i64 (u 1), .int .i64 (u 2)]) := HU.out.ext x
      have HR : Hid (HV wc2 (w.heap.size + 2) [.int .i64 0, .int .i64 0, .int .i64 0]) := HR.out.ext x
      have HT : Hid (HV wc2 (w.heap.size + 3) [.int .i64 r0, .int .i64 r1, .int .i64 0]) := HT.out.ext x
      have HX : Hid (Ext w wc2) := HX.out.trans x
      clear x
      have hy2 : Hid (IsW y2 q2) := hy2
      go_wp2_with fail
      refine (W2.out _ _ hy2.out).mono ?_
      rintro e wd2 ⟨rfl, x⟩
      have HM : Hid (HV wd2 w.heap.size [.int .i64 (m 0), .int .i64 (m 1), .int .i64 (m 2), .int .i64 (m 3), .int .i64 (m 4), .int .i64 (m 5), .int .i64 (m 6), .int .i64 (m 7), .int .i64 (m 8)]) := HM.out.ext x
      have HU : Hid (HV wd2 (w.heap.size + 1) [.int .i64 (u 0), .int .i64 (u 1), .int .i64 (u 2)]) := HU.out.ext x
      have HR : Hid (HV wd2 (w.heap.size + 2) [.int .i64 0, .int .i64 0, .int .i64 0]) := HR.out.ext x
      have HT : Hid (HV wd2 (w.heap.size + 3) [.int .i64 r0, .int .i64 r1, .int .i64 0]) := HT.out.ext x
      have HX : Hid (Ext w wd2) := HX.out.trans x
      clear x
      obtain ⟨z0, z1, z2⟩ := HR.out.k3
      obtain ⟨y0, y1, y2⟩ := HR.out.z3
      obtain ⟨t0, t1, t2⟩ := HT.out.k3
      obtain ⟨s0, s1, s2⟩ := HT.out.z3
      by_cases he2 : e2 = 0
      · subst he2
        go_wp2_with fail
        rw [rounds_succ]
        go_wp2_with fail
        refine bodyPost_ret (v := .tuple #[.agg #[.int .i64 r0, .int .i64 r1, .int .i64 r2], .int .i64 0]) (by simp [results, Try.results27, go_sem, z0, z1, z2]) rfl ⟨by unfold thr; simp, ?_⟩
        exact Ext.set (Ext.set (Ext.set (HX.out.set (p := ⟨w.heap.size + 3, 2, none⟩) lt3.out _) lt2.out _) lt2.out _) lt2.out _
      · have heb : (e2 != 0) = true := by simp [he2]
        go_wp2_with fail
        refine bodyPost_ret (v := .tuple #[.agg #[.int .i64 0, .int .i64 0, .int .i64 0], .int .i64 e2]) (by simp [results, Try.results27, go_sem, z0, z1, z2]) rfl ⟨by unfold thr; simp [he2], ?_⟩
        exact Ext.set (Ext.set (Ext.set HX.out lt2.out _) lt2.out _) lt2.out _
    · have heb : (e1 != 0) = true := by simp [he1]
      go_wp2_with fail
      refine bodyPost_ret (v := .tuple #[.agg #[.int .i64 0, .int .i64 0, .int .i64 0], .int .i64 e1]) (by simp [results, Try.results27, go_sem, z0, z1, z2]) rfl ⟨by unfold thr; simp [he1], ?_⟩
      exact Ext.set (Ext.set (Ext.set HX.out lt2.out _) lt2.out _) lt2.out _
  · have heb : (e0 != 0) = true := by simp [he0]
    go_wp2_with fail
    refine bodyPost_ret (v := .tuple #[.agg #[.int .i64 0, .int .i64 0, .int .i64 0], .int .i64 e0]) (by simp [results, Try.results27, go_sem, z0, z1, z2]) rfl ⟨by unfold thr; simp [he0], ?_⟩
    exact Ext.set (Ext.set (Ext.set HX.out lt2.out _) lt2.out _) lt2.out _

/-! Ca3 -/
theorem rangeAt_far {w : World} {b g o i : Nat} {cs : List Value} {v : Value} (h : w.rangeAt b o cs) (hb : g ≠ b) : (w.setCell ⟨g, i, none⟩ v).rangeAt b o cs := fun j u hj => by
  rw [World.cell?_setCell_far _ _ _ _ hb]; exact h j u hj
/-- one number without what bias and heat add -/
def clr (x b h d : Int) : Int := 1024 * x - b - h * d
theorem clr_bound {x b h d : Int} (hx : -32768 ≤ x ∧ x ≤ 32767) (hb : okW b = true) (hh : okW h = true) (hd : -255 ≤ d ∧ d ≤ 255) :
    (-9007199254740992 ≤ h * d ∧ h * d ≤ 9007199254740992) ∧ -36028797018963968 ≤ clr x b h d ∧ clr x b h d ≤ 36028797018963968 := by
  have b1 := okW_bounds hb
  have b2 := okW_bounds hh
  have p := mul_bound (a := h) (b := d) (A := 35184372088832) (B := 255) (by omega) (by omega) hd.1 hd.2
  unfold clr
  omega
theorem okC_parts {b0 b1 b2 h0 h1 h2 rf : Int} {m : Nat → Int} (h : okC b0 b1 b2 h0 h1 h2 rf m = true) : (-128 ≤ rf ∧ rf ≤ 127) ∧ ok3 b0 b1 b2 = true ∧ ok3 h0 h1 h2 = true ∧ okM m = true := by
  unfold okC at h; simp only [Bool.and_eq_true, inn_iff] at h; exact ⟨h.1, h.2.1, h.2.2.1, h.2.2.2⟩
theorem wrap_self {z : Int} (h1 : -9223372036854775808 ≤ z) (h2 : z ≤ 9223372036854775807) : IntKind.i64.wrap z = z := by
  rw [IntKind.wrap_i64]; omega
set_option maxRecDepth 20000 in
set_option maxHeartbeats 8000000 in
theorem cleared_raw (b0 b1 b2 h0 h1 h2 rf : Int) (m : Nat → Int) (x y z t d p0 p1 p2 u0 u1 u2 : Int) (w : World) (hx : -32768 ≤ x ∧ x ≤ 32767) (hy : -32768 ≤ y ∧ y ≤ 32767) (hz : -32768 ≤ z ∧ z ≤ 32767)
    (b0b : -35184372088832 ≤ b0 ∧ b0 ≤ 35184372088832) (b1b : -35184372088832 ≤ b1 ∧ b1 ≤ 35184372088832) (b2b : -35184372088832 ≤ b2 ∧ b2 ≤ 35184372088832)
    (p0b : -9007199254740992 ≤ p0 ∧ p0 ≤ 9007199254740992) (p1b : -9007199254740992 ≤ p1 ∧ p1 ≤ 9007199254740992) (p2b : -9007199254740992 ≤ p2 ∧ p2 ≤ 9007199254740992)
    (ed : wrap64 (t - rf) = d) (e0 : wrap64 (h0 * d) = p0) (e1 : wrap64 (h1 * d) = p1) (e2 : wrap64 (h2 * d) = p2) (hu0 : 1024 * x - b0 - p0 = u0) (hu1 : 1024 * y - b1 - p1 = u1) (hu2 : 1024 * z - b2 - p2 = u2) :
    Calls Try.prog 28 #[.agg #[.int .i64 b0, .int .i64 b1, .int .i64 b2, .int .i64 h0, .int .i64 h1, .int .i64 h2, .int .i64 rf, .int .i64 (m 0), .int .i64 (m 1), .int .i64 (m 2), .int .i64 (m 3), .int .i64 (m 4), .int .i64 (m 5), .int .i64 (m 6), .int .i64 (m 7), .int .i64 (m 8)], .agg #[.int .i64 x, .int .i64 y, .int .i64 z, .int .i64 t]] w fun e w' => e = .returned (.agg #[.int .i64 u0, .int .i64 u1, .int .i64 u2]) ∧ Ext w w' := by
  have E : Hid (1024 * x - b0 - p0 = u0 ∧ 1024 * y - b1 - p1 = u1 ∧ 1024 * z - b2 - p2 = u2) := ⟨hu0, hu1, hu2⟩
  clear hu0 hu1 hu2
  go_enter Try.func28, Try.ntmps28
  go_wp2_with fail
  refine bodyPost_ret (v := .agg #[.int .i64 u0, .int .i64 u1, .int .i64 u2]) (by simp [results, Try.results28, go_sem, E.out.1, E.out.2.1, E.out.2.2]) rfl ⟨rfl, by repeat (first | with_reducible assumption | with_reducible exact Ext.refl _ | with_reducible refine Ext.drew ?_ | with_reducible refine Ext.drewN ?_ _ | with_reducible refine Ext.alloc ?_ _ | with_reducible refine Ext.set ?_ (by first | exact Nat.le_refl _ | (dsimp only; omega) | (simp; done)) _)⟩
theorem cleared_any (b0 b1 b2 h0 h1 h2 rf : Int) (m : Nat → Int) (x y z t : Int) (w : World) (hc : okC b0 b1 b2 h0 h1 h2 rf m = true) (hr : okR x y z t = true) :
    Calls Try.prog 28 #[.agg #[.int .i64 b0, .int .i64 b1, .int .i64 b2, .int .i64 h0, .int .i64 h1, .int .i64 h2, .int .i64 rf, .int .i64 (m 0), .int .i64 (m 1), .int .i64 (m 2), .int .i64 (m 3), .int .i64 (m 4), .int .i64 (m 5), .int .i64 (m 6), .int .i64 (m 7), .int .i64 (m 8)], .agg #[.int .i64 x, .int .i64 y, .int .i64 z, .int .i64 t]] w fun e w' => e = .returned (.agg #[.int .i64 (clr x b0 h0 (t - rf)), .int .i64 (clr y b1 h1 (t - rf)), .int .i64 (clr z b2 h2 (t - rf))]) ∧ Ext w w' := by
  obtain ⟨rx, ry, rz, rt⟩ := okR_bounds hr
  obtain ⟨cr, cb, ch, cm⟩ := okC_parts hc
  have hd : -255 ≤ t - rf ∧ t - rf ≤ 255 := by omega
  obtain ⟨p0, q0⟩ := clr_bound rx (ok3_parts cb).1 (ok3_parts ch).1 hd
  obtain ⟨p1, q1⟩ := clr_bound ry (ok3_parts cb).2.1 (ok3_parts ch).2.1 hd
  obtain ⟨p2, q2⟩ := clr_bound rz (ok3_parts cb).2.2 (ok3_parts ch).2.2 hd
  have d0 := okW_bounds (ok3_parts cb).1
  have d1 := okW_bounds (ok3_parts cb).2.1
  have d2 := okW_bounds (ok3_parts cb).2.2
  have w64 : ∀ a : Int, -9007199254740992 ≤ a ∧ a ≤ 9007199254740992 → wrap64 a = a := fun a h => by
    unfold wrap64; omega
  exact cleared_raw b0 b1 b2 h0 h1 h2 rf m x y z t (t - rf) (h0 * (t - rf)) (h1 * (t - rf)) (h2 * (t - rf)) _ _ _ w rx ry rz (by omega) (by omega) (by omega) p0 p1 p2 (w64 _ (by omega)) (w64 _ p0) (w64 _ p1) (w64 _ p2) rfl rfl rfl
/-- what is left of a sample -/
def uC (b0 b1 b2 h0 h1 h2 rf x y z t : Int) (j : Nat) : Int := if j = 0 then clr x b0 h0 (t - rf) else if j = 1 then clr y b1 h1 (t - rf) else clr z b2 h2 (t - rf)
/-- what Apply tells -/
def calR (b0 b1 b2 h0 h1 h2 rf : Int) (m : Nat → Int) (x y z t : Int) : Value :=
  if okC b0 b1 b2 h0 h1 h2 rf m && okR x y z t then vres (nearQ (rowU m (uC b0 b1 b2 h0 h1 h2 rf x y z t) 0)) (nearQ (rowU m (uC b0 b1 b2 h0 h1 h2 rf x y z t) 1)) (nearQ (rowU m (uC b0 b1 b2 h0 h1 h2 rf x y z t) 2)) else vbad
theorem uC_bound (b0 b1 b2 h0 h1 h2 rf : Int) (m : Nat → Int) (x y z t : Int) (hc : okC b0 b1 b2 h0 h1 h2 rf m = true) (hr : okR x y z t = true) : ∀ j, j < 3 → -36028797018963968 ≤ uC b0 b1 b2 h0 h1 h2 rf x y z t j ∧ uC b0 b1 b2 h0 h1 h2 rf x y z t j ≤ 36028797018963968 := by
  obtain ⟨rx, ry, rz, rt⟩ := okR_bounds hr
  obtain ⟨cr, cb, ch, cm⟩ := okC_parts hc
  have hd : -255 ≤ t - rf ∧ t - rf ≤ 255 := by omega
  intro j hj
  match j, hj with
  | 0, _ => exact (clr_bound rx (ok3_parts cb).1 (ok3_parts ch).1 hd).2
  | 1, _ => exact (clr_bound ry (ok3_parts cb).2.1 (ok3_parts ch).2.1 hd).2
  | 2, _ => exact (clr_bound rz (ok3_parts cb).2.2 (ok3_parts ch).2.2 hd).2
set_option maxRecDepth 20000 in
set_option maxHeartbeats 8000000 in
theorem cApply_any (b0 b1 b2 h0 h1 h2 rf : Int) (m : Nat → Int) (x y z t : Int) (w : World) :
    Calls Try.prog 10 #[.agg #[.int .i64 b0, .int .i64 b1, .int .i64 b2, .int .i64 h0, .int .i64 h1, .int .i64 h2, .int .i64 rf, .int .i64 (m 0), .int .i64 (m 1), .int .i64 (m 2), .int .i64 (m 3), .int .i64 (m 4), .int .i64 (m 5), .int .i64 (m 6), .int .i64 (m 7), .int .i64 (m 8)], .agg #[.int .i64 x, .int .i64 y, .int .i64 z, .int .i64 t]] w fun e w' => e = .returned (calR b0 b1 b2 h0 h1 h2 rf m x y z t) ∧ Ext w w' := by
  have HK : Hid (∀ w, Calls Try.prog 12 #[.agg #[.int .i64 b0, .int .i64 b1, .int .i64 b2, .int .i64 h0, .int .i64 h1, .int .i64 h2, .int .i64 rf, .int .i64 (m 0), .int .i64 (m 1), .int .i64 (m 2), .int .i64 (m 3), .int .i64 (m 4), .int .i64 (m 5), .int .i64 (m 6), .int .i64 (m 7), .int .i64 (m 8)]] w fun e w' => e = .returned (.int .i64 (chkC b0 b1 b2 h0 h1 h2 rf m)) ∧ Ext w w') := cCheck_any b0 b1 b2 h0 h1 h2 rf m
  have HI : Hid (∀ w, Calls Try.prog 26 #[.agg #[.int .i64 x, .int .i64 y, .int .i64 z, .int .i64 t]] w fun e w' => e = .returned (.bool (okR x y z t)) ∧ Ext w w') := israw_any x y z t
  have ne : ∀ k : Nat, w.heap.size ≠ w.heap.size + (k + 1) := fun k => by omega
  have B1 : Hid (HV (((w.alloc (.cells #[.int .i64 b0, .int .i64 b1, .int .i64 b2, .int .i64 h0, .int .i64 h1, .int .i64 h2, .int .i64 rf, .int .i64 (m 0), .int .i64 (m 1), .int .i64 (m 2), .int .i64 (m 3), .int .i64 (m 4), .int .i64 (m 5), .int .i64 (m 6), .int .i64 (m 7), .int .i64 (m 8)] 27)).alloc (.cells #[.int .i64 x, .int .i64 y, .int .i64 z, .int .i64 t] 29)).alloc (.cells #[.int .i64 0, .int .i64 0, .int .i64 0] 24)) w.heap.size [.int .i64 b0, .int .i64 b1, .int .i64 b2, .int .i64 h0, .int .i64 h1, .int .i64 h2, .int .i64 rf, .int .i64 (m 0), .int .i64 (m 1), .int .i64 (m 2), .int .i64 (m 3), .int .i64 (m 4), .int .i64 (m 5), .int .i64 (m 6), .int .i64 (m 7), .int .i64 (m 8)]) := ((hv_at rfl).alloc _).alloc _
  have B2 : Hid (HV (((w.alloc (.cells #[.int .i64 b0, .int .i64 b1, .int .i64 b2, .int .i64 h0, .int .i64 h1, .int .i64 h2, .int .i64 rf, .int .i64 (m 0), .int .i64 (m 1), .int .i64 (m 2), .int .i64 (m 3), .int .i64 (m 4), .int .i64 (m 5), .int .i64 (m 6), .int .i64 (m 7), .int .i64 (m 8)] 27)).alloc (.cells #[.int .i64 x, .int .i64 y, .int .i64 z, .int .i64 t] 29)).alloc (.cells #[.int .i64 0, .int .i64 0, .int .i64 0] 24)) (w.heap.size + 1) [.int .i64 x, .int .i64 y, .int .i64 z, .int .i64 t]) := (hv_at (by simp)).alloc _
  have B3 : Hid (HV (((w.alloc (.cells #[.int .i64 b0, .int .i64 b1, .int .i64 b2, .int .i64 h0, .int .i64 h1, .int .i64 h2, .int .i64 rf, .int .i64 (m 0), .int .i64 (m 1), .int .i64 (m 2), .int .i64 (m 3), .int .i64 (m 4), .int .i64 (m 5), .int .i64 (m 6), .int .i64 (m 7), .int .i64 (m 8)] 27)).alloc (.cells #[.int .i64 x, .int .i64 y, .int .i64 z, .int .i64 t] 29)).alloc (.cells #[.int .i64 0, .int .i64 0, .int .i64 0] 24)) (w.heap.size + 2) [.int .i64 0, .int .i64 0, .int .i64 0]) := hv_at (by simp)
  have HX : Hid (Ext w (((w.alloc (.cells #[.int .i64 b0, .int .i64 b1, .int .i64 b2, .int .i64 h0, .int .i64 h1, .int .i64 h2, .int .i64 rf, .int .i64 (m 0), .int .i64 (m 1), .int .i64 (m 2), .int .i64 (m 3), .int .i64 (m 4), .int .i64 (m 5), .int .i64 (m 6), .int .i64 (m 7), .int .i64 (m 8)] 27)).alloc (.cells #[.int .i64 x, .int .i64 y, .int .i64 z, .int .i64 t] 29)).alloc (.cells #[.int .i64 0, .int .i64 0, .int .i64 0] 24))) := (((Ext.refl w).alloc _).alloc _).alloc _
  have lt2 : Hid (w.heap.size ≤ w.heap.size + 2) := Nat.le_add_right _ _
  cases hc : okC b0 b1 b2 h0 h1 h2 rf m
  · have ec : chkC b0 b1 b2 h0 h1 h2 rf m = 1 := by unfold chkC; rw [hc]; rfl
    have er : calR b0 b1 b2 h0 h1 h2 rf m x y z t = vbad := by unfold calR; rw [hc]; rfl
    rw [ec] at HK
    rw [er]
    clear ec er hc
    go_enter Try.func10, Try.ntmps10
    go_wp2_with fail
    generalize (((w.alloc (.cells #[.int .i64 b0, .int .i64 b1, .int .i64 b2, .int .i64 h0, .int .i64 h1, .int .i64 h2, .int .i64 rf, .int .i64 (m 0), .int .i64 (m 1), .int .i64 (m 2), .int .i64 (m 3), .int .i64 (m 4), .int .i64 (m 5), .int .i64 (m 6), .int .i64 (m 7), .int .i64 (m 8)] 27)).alloc (.cells #[.int .i64 x, .int .i64 y, .int .i64 z, .int .i64 t] 29)).alloc (.cells #[.int .i64 0, .int .i64 0, .int .i64 0] 24)) = wa at *
    refine (HK.out _).mono ?_
    rintro e w1 ⟨rfl, x1⟩
    obtain ⟨z0, z1, z2⟩ := (B3.out.ext x1).k3
    obtain ⟨y0, y1, y2⟩ := (B3.out.ext x1).z3
    have X1 : Hid (Ext w w1) := HX.out.trans x1
    go_wp2_with fail
    refine bodyPost_ret (v := vbad) (by simp [vbad, results, Try.results10, go_sem, z0, z1, z2]) rfl ⟨rfl, ?_⟩
    exact Ext.set (Ext.set (Ext.set X1.out lt2.out _) lt2.out _) lt2.out _
  · have ec : chkC b0 b1 b2 h0 h1 h2 rf m = 0 := by unfold chkC; rw [hc]; rfl
    rw [ec] at HK
    clear ec
    cases hr : okR x y z t
    · have er : calR b0 b1 b2 h0 h1 h2 rf m x y z t = vbad := by unfold calR; rw [hc, hr]; rfl
      rw [er]
      rw [hr] at HI
      clear er hc hr
      go_enter Try.func10, Try.ntmps10
      go_wp2_with fail
      generalize (((w.alloc (.cells #[.int .i64 b0, .int .i64 b1, .int .i64 b2, .int .i64 h0, .int .i64 h1, .int .i64 h2, .int .i64 rf, .int .i64 (m 0), .int .i64 (m 1), .int .i64 (m 2), .int .i64 (m 3), .int .i64 (m 4), .int .i64 (m 5), .int .i64 (m 6), .int .i64 (m 7), .int .i64 (m 8)] 27)).alloc (.cells #[.int .i64 x, .int .i64 y, .int .i64 z, .int .i64 t] 29)).alloc (.cells #[.int .i64 0, .int .i64 0, .int .i64 0] 24)) = wa at *
      refine (HK.out _).mono ?_
      rintro e w1 ⟨rfl, x1⟩
      obtain ⟨r0, r1, r2, r3⟩ := (B2.out.ext x1).k4
      go_wp2_with fail
      refine (HI.out _).mono ?_
      rintro e w2 ⟨rfl, x2⟩
      obtain ⟨z0, z1, z2⟩ := (B3.out.ext (x1.trans x2)).k3
      obtain ⟨y0, y1, y2⟩ := (B3.out.ext (x1.trans x2)).z3
      have X1 : Hid (Ext w w2) := HX.out.trans (x1.trans x2)
      go_wp2_with fail
      refine bodyPost_ret (v := vbad) (by simp [vbad, results, Try.results10, go_sem, z0, z1, z2]) rfl ⟨rfl, ?_⟩
      exact Ext.set (Ext.set (Ext.set X1.out lt2.out _) lt2.out _) lt2.out _
    · have er : calR b0 b1 b2 h0 h1 h2 rf m x y z t = vres (nearQ (rowU m (uC b0 b1 b2 h0 h1 h2 rf x y z t) 0)) (nearQ (rowU m (uC b0 b1 b2 h0 h1 h2 rf x y z t) 1)) (nearQ (rowU m (uC b0 b1 b2 h0 h1 h2 rf x y z t) 2)) := by unfold calR; rw [hc, hr]; rfl
      rw [er]
      have HC : Hid (∀ w, Calls Try.prog 28 #[.agg #[.int .i64 b0, .int .i64 b1, .int .i64 b2, .int .i64 h0, .int .i64 h1, .int .i64 h2, .int .i64 rf, .int .i64 (m 0), .int .i64 (m 1), .int .i64 (m 2), .int .i64 (m 3), .int .i64 (m 4), .int .i64 (m 5), .int .i64 (m 6), .int .i64 (m 7), .int .i64 (m 8)], .agg #[.int .i64 x, .int .i64 y, .int .i64 z, .int .i64 t]] w fun e w' => e = .returned (.agg #[.int .i64 (uC b0 b1 b2 h0 h1 h2 rf x y z t 0), .int .i64 (uC b0 b1 b2 h0 h1 h2 rf x y z t 1), .int .i64 (uC b0 b1 b2 h0 h1 h2 rf x y z t 2)]) ∧ Ext w w') := fun w => cleared_any b0 b1 b2 h0 h1 h2 rf m x y z t w hc hr
      have HG : Hid (∀ w, Calls Try.prog 27 #[.agg #[.int .i64 (m 0), .int .i64 (m 1), .int .i64 (m 2), .int .i64 (m 3), .int .i64 (m 4), .int .i64 (m 5), .int .i64 (m 6), .int .i64 (m 7), .int .i64 (m 8)], .agg #[.int .i64 (uC b0 b1 b2 h0 h1 h2 rf x y z t 0), .int .i64 (uC b0 b1 b2 h0 h1 h2 rf x y z t 1), .int .i64 (uC b0 b1 b2 h0 h1 h2 rf x y z t 2)]] w fun e w' => e = .returned (vres (nearQ (rowU m (uC b0 b1 b2 h0 h1 h2 rf x y z t) 0)) (nearQ (rowU m (uC b0 b1 b2 h0 h1 h2 rf x y z t) 1)) (nearQ (rowU m (uC b0 b1 b2 h0 h1 h2 rf x y z t) 2))) ∧ Ext w w') := fun w => image_any m (uC b0 b1 b2 h0 h1 h2 rf x y z t) w (fun k hk => okM_at (okC_parts hc).2.2.2 hk) (uC_bound b0 b1 b2 h0 h1 h2 rf m x y z t hc hr)
      rw [hr] at HI
      obtain ⟨g0, g1, g2, ge, eg⟩ := vres_shape (nearQ (rowU m (uC b0 b1 b2 h0 h1 h2 rf x y z t) 0)) (nearQ (rowU m (uC b0 b1 b2 h0 h1 h2 rf x y z t) 1)) (nearQ (rowU m (uC b0 b1 b2 h0 h1 h2 rf x y z t) 2))
      rw [eg] at HG ⊢
      clear er hc hr eg
      generalize uC b0 b1 b2 h0 h1 h2 rf x y z t 0 = c0 at *
      generalize uC b0 b1 b2 h0 h1 h2 rf x y z t 1 = c1 at *
      generalize uC b0 b1 b2 h0 h1 h2 rf x y z t 2 = c2 at *
      go_enter Try.func10, Try.ntmps10
      go_wp2_with fail
      generalize (((w.alloc (.cells #[.int .i64 b0, .int .i64 b1, .int .i64 b2, .int .i64 h0, .int .i64 h1, .int .i64 h2, .int .i64 rf, .int .i64 (m 0), .int .i64 (m 1), .int .i64 (m 2), .int .i64 (m 3), .int .i64 (m 4), .int .i64 (m 5), .int .i64 (m 6), .int .i64 (m 7), .int .i64 (m 8)] 27)).alloc (.cells #[.int .i64 x, .int .i64 y, .int .i64 z, .int .i64 t] 29)).alloc (.cells #[.int .i64 0, .int .i64 0, .int .i64 0] 24)) = wa at *
      refine (HK.out _).mono ?_
      rintro e w1 ⟨rfl, x1⟩
      obtain ⟨r0, r1, r2, r3⟩ := (B2.out.ext x1).k4
      go_wp2_with fail
      refine (HI.out _).mono ?_
      rintro e w2 ⟨rfl, x2⟩
      have B1 : Hid (HV w2 w.heap.size [.int .i64 b0, .int .i64 b1, .int .i64 b2, .int .i64 h0, .int .i64 h1, .int .i64 h2, .int .i64 rf, .int .i64 (m 0), .int .i64 (m 1), .int .i64 (m 2), .int .i64 (m 3), .int .i64 (m 4), .int .i64 (m 5), .int .i64 (m 6), .int .i64 (m 7), .int .i64 (m 8)]) := B1.out.ext (x1.trans x2)
      have B2 : Hid (HV w2 (w.heap.size + 1) [.int .i64 x, .int .i64 y, .int .i64 z, .int .i64 t]) := B2.out.ext (x1.trans x2)
      have B3 : Hid (HV w2 (w.heap.size + 2) [.int .i64 0, .int .i64 0, .int .i64 0]) := B3.out.ext (x1.trans x2)
      have HX : Hid (Ext w w2) := HX.out.trans (x1.trans x2)
      clear r0 r1 r2 r3 x1 x2 HK HI ne
      go_wp2_with fail
      obtain ⟨k0, k1, k2, k3, k4, k5, k6, k7, k8, k9, k10, k11, k12, k13, k14, k15⟩ := B1.out.k16
      obtain ⟨r0, r1, r2, r3⟩ := B2.out.k4
      have R0 : w2.rangeAt w.heap.size 7 [.int .i64 (m 0), .int .i64 (m 1), .int .i64 (m 2), .int .i64 (m 3), .int .i64 (m 4), .int .i64 (m 5), .int .i64 (m 6), .int .i64 (m 7), .int .i64 (m 8)] := B1.out.rng 7
      obtain ⟨z0, z1, z2⟩ := B3.out.k3
      obtain ⟨y0, y1, y2⟩ := B3.out.z3
      have hu9 : Try.prog.underlying 25 = some (.array 9 2) := by kernel_rfl
      have hs9 : (Try.prog.info? 25).map (·.size) = some ([.int .i64 (m 0), .int .i64 (m 1), .int .i64 (m 2), .int .i64 (m 3), .int .i64 (m 4), .int .i64 (m 5), .int .i64 (m 6), .int .i64 (m 7), .int .i64 (m 8)] : List Value).length := by kernel_rfl
      go_region_held3 (fun w' => w'.cell? ⟨w.heap.size, 0, none⟩ = some (.int .i64 b0) ∧ w'.cell? ⟨w.heap.size, 1, none⟩ = some (.int .i64 b1) ∧ w'.cell? ⟨w.heap.size, 2, none⟩ = some (.int .i64 b2) ∧ w'.cell? ⟨w.heap.size, 3, none⟩ = some (.int .i64 h0) ∧ w'.cell? ⟨w.heap.size, 4, none⟩ = some (.int .i64 h1) ∧ w'.cell? ⟨w.heap.size, 5, none⟩ = some (.int .i64 h2) ∧ w'.cell? ⟨w.heap.size, 6, none⟩ = some (.int .i64 rf) ∧ w'.cell? ⟨w.heap.size, 7, none⟩ = some (.int .i64 (m 0)) ∧ w'.cell? ⟨w.heap.size, 8, none⟩ = some (.int .i64 (m 1)) ∧ w'.cell? ⟨w.heap.size, 9, none⟩ = some (.int .i64 (m 2)) ∧ w'.cell? ⟨w.heap.size, 10, none⟩ = some (.int .i64 (m 3)) ∧ w'.cell? ⟨w.heap.size, 11, none⟩ = some (.int .i64 (m 4)) ∧ w'.cell? ⟨w.heap.size, 12, none⟩ = some (.int .i64 (m 5)) ∧ w'.cell? ⟨w.heap.size, 13, none⟩ = some (.int .i64 (m 6)) ∧ w'.cell? ⟨w.heap.size, 14, none⟩ = some (.int .i64 (m 7)) ∧ w'.cell? ⟨w.heap.size, 15, none⟩ = some (.int .i64 (m 8)) ∧ w'.cell? ⟨w.heap.size + 1, 0, none⟩ = some (.int .i64 x) ∧ w'.cell? ⟨w.heap.size + 1, 1, none⟩ = some (.int .i64 y) ∧ w'.cell? ⟨w.heap.size + 1, 2, none⟩ = some (.int .i64 z) ∧ w'.cell? ⟨w.heap.size + 1, 3, none⟩ = some (.int .i64 t) ∧ w'.rangeAt w.heap.size 7 [.int .i64 (m 0), .int .i64 (m 1), .int .i64 (m 2), .int .i64 (m 3), .int .i64 (m 4), .int .i64 (m 5), .int .i64 (m 6), .int .i64 (m 7), .int .i64 (m 8)]) (first | (simp [*]; done) | (refine ⟨?_, ?_, ?_, ?_, ?_, ?_, ?_, ?_, ?_, ?_, ?_, ?_, ?_, ?_, ?_, ?_, ?_, ?_, ?_, ?_, ?_⟩ <;> first | (exact rangeAt_far (rangeAt_far (rangeAt_far R4 (by omega)) (by omega)) (by omega)) | (rw [World.cell?_setCell_far _ _ _ _ (by dsimp only; omega), World.cell?_setCell_far _ _ _ _ (by dsimp only; omega), World.cell?_setCell_far _ _ _ _ (by dsimp only; omega)]; with_reducible assumption)) | skip) (first | (go_at_call 28; refine (HC.out _).mono ?_; rintro e w3 ⟨rfl, x3⟩; have Y3 : Ext w2 w3 := Ext.trans (by repeat (first | with_reducible assumption | with_reducible exact Ext.refl _ | with_reducible refine Ext.drew ?_ | with_reducible refine Ext.drewN ?_ _ | with_reducible refine Ext.alloc ?_ _ | with_reducible refine Ext.set ?_ (by first | exact Nat.le_refl _ | (dsimp only; omega) | (simp; done)) _)) x3; have R3 : w3.rangeAt w.heap.size 7 [.int .i64 (m 0), .int .i64 (m 1), .int .i64 (m 2), .int .i64 (m 3), .int .i64 (m 4), .int .i64 (m 5), .int .i64 (m 6), .int .i64 (m 7), .int .i64 (m 8)] := (B1.out.ext Y3).rng 7; obtain ⟨a0, a1, a2, a3, a4, a5, a6, a7, a8, a9, a10, a11, a12, a13, a14, a15⟩ := (B1.out.ext Y3).k16; obtain ⟨q0, q1, q2, q3⟩ := (B2.out.ext Y3).k4; obtain ⟨z0, z1, z2⟩ := (B3.out.ext Y3).k3; obtain ⟨y0, y1, y2⟩ := (B3.out.ext Y3).z3) | (go_at_call 27; refine (HG.out _).mono ?_; rintro e w4 ⟨rfl, x4⟩; have Y4 : Ext w2 w4 := Ext.trans (by repeat (first | with_reducible assumption | with_reducible exact Ext.refl _ | with_reducible refine Ext.drew ?_ | with_reducible refine Ext.drewN ?_ _ | with_reducible refine Ext.alloc ?_ _ | with_reducible refine Ext.set ?_ (by first | exact Nat.le_refl _ | (dsimp only; omega) | (simp; done)) _)) x4; have R4 : w4.rangeAt w.heap.size 7 [.int .i64 (m 0), .int .i64 (m 1), .int .i64 (m 2), .int .i64 (m 3), .int .i64 (m 4), .int .i64 (m 5), .int .i64 (m 6), .int .i64 (m 7), .int .i64 (m 8)] := (B1.out.ext Y4).rng 7; obtain ⟨d0, d1, d2, d3, d4, d5, d6, d7, d8, d9, d10, d11, d12, d13, d14, d15⟩ := (B1.out.ext Y4).k16; obtain ⟨p0, p1, p2, p3⟩ := (B2.out.ext Y4).k4; obtain ⟨z0, z1, z2⟩ := (B3.out.ext Y4).k3; obtain ⟨y0, y1, y2⟩ := (B3.out.ext Y4).z3))
      all_goals
        have X4 : Hid (Ext w w4) := HX.out.trans Y4
        go_wp2_with fail
        refine bodyPost_ret (v := .tuple #[.agg #[.int .i64 g0, .int .i64 g1, .int .i64 g2], .int .i64 ge]) (by simp [results, Try.results10, go_sem, z0, z1, z2]) rfl ⟨rfl, ?_⟩
        exact Ext.set (Ext.set (Ext.set X4.out lt2.out _) lt2.out _) lt2.out _

/-! Ca4 -/

set_option maxHeartbeats 400000 in
theorem num10_any (v : Int) (w : World) :
    Calls Try.prog 11 #[.int .i64 v] w fun e w' => e = .returned (.int .i64 v) ∧ w' = w := by
  go_enter Try.func11, Try.ntmps11
  go_wp2
  go_ret
  exact ⟨rfl, rfl⟩
set_option maxHeartbeats 400000 in
theorem in8_any (x a b : Int) (w : World) : Calls Try.prog 20 #[.int .i64 x, .int .i64 a, .int .i64 b] w fun e w' => e = .returned (.bool (inn x a b)) ∧ w' = w := by
  by_cases h1 : a ≤ x
  · by_cases h2 : x ≤ b
    · have e : Hid (inn x a b = true) := inn_iff.2 ⟨h1, h2⟩
      go_enter Try.func20, Try.ntmps20
      go_wp2
      go_ret
      rw [e.out]; exact ⟨rfl, rfl⟩
    · have e : Hid (inn x a b = false) := inn_not.2 (fun h => h2 h.2)
      go_enter Try.func20, Try.ntmps20
      go_wp2
      go_ret
      rw [e.out]; exact ⟨rfl, rfl⟩
  · have e : Hid (inn x a b = false) := inn_not.2 (fun h => h1 h.1)
    go_enter Try.func20, Try.ntmps20
    go_wp2
    go_ret
    rw [e.out]; exact ⟨rfl, rfl⟩
set_option maxRecDepth 20000 in
set_option maxHeartbeats 4000000 in
theorem mayraw_any (x y z t : Int) (w : World) : Calls Try.prog 8 #[.agg #[.int .i64 x, .int .i64 y, .int .i64 z, .int .i64 t]] w fun e w' => e = .returned (.bool (okR x y z t)) ∧ Ext w w' := by
  have HX : Hid (∀ w, Calls Try.prog 20 #[.int .i64 x, .int .i64 (-32768), .int .i64 32767] w fun e w' => e = .returned (.bool (inn x (-32768) 32767)) ∧ w' = w) := in8_any x _ _
  have HY : Hid (∀ w, Calls Try.prog 20 #[.int .i64 y, .int .i64 (-32768), .int .i64 32767] w fun e w' => e = .returned (.bool (inn y (-32768) 32767)) ∧ w' = w) := in8_any y _ _
  have HZ : Hid (∀ w, Calls Try.prog 20 #[.int .i64 z, .int .i64 (-32768), .int .i64 32767] w fun e w' => e = .returned (.bool (inn z (-32768) 32767)) ∧ w' = w) := in8_any z _ _
  have HT : Hid (∀ w, Calls Try.prog 20 #[.int .i64 t, .int .i64 (-128), .int .i64 127] w fun e w' => e = .returned (.bool (inn t (-128) 127)) ∧ w' = w) := in8_any t _ _
  have ex : Hid (okR x y z t = (inn x (-32768) 32767 && inn y (-32768) 32767 && inn z (-32768) 32767 && inn t (-128) 127)) := rfl
  generalize inn x (-32768) 32767 = p1 at *
  generalize inn y (-32768) 32767 = p2 at *
  generalize inn z (-32768) 32767 = p3 at *
  generalize inn t (-128) 127 = p4 at *
  generalize okR x y z t = R at *
  have hx : Ext w (w.alloc (.cells #[.int .i64 x, .int .i64 y, .int .i64 z, .int .i64 t] 29)) := (Ext.refl w).alloc _
  cases p1 <;> cases p2 <;> cases p3
  all_goals
    go_enter Try.func8, Try.ntmps8
    go_wp2_with (first | (go_at_call_of 20 (Value.int IntKind.i64 x); refine (HX.out _).mono ?_; rintro e wx ⟨rfl, hwx⟩; have hwy := hwx.symm; clear hwx; subst hwy) | (go_at_call_of 20 (Value.int IntKind.i64 y); refine (HY.out _).mono ?_; rintro e wx ⟨rfl, hwx⟩; have hwy := hwx.symm; clear hwx; subst hwy) | (go_at_call_of 20 (Value.int IntKind.i64 z); refine (HZ.out _).mono ?_; rintro e wx ⟨rfl, hwx⟩; have hwy := hwx.symm; clear hwx; subst hwy) | (go_at_call_of 20 (Value.int IntKind.i64 t); refine (HT.out _).mono ?_; rintro e wx ⟨rfl, hwx⟩; have hwy := hwx.symm; clear hwx; subst hwy))
    go_ret
    rw [ex.out]
    exact ⟨by first | rfl | simp, hx⟩
set_option maxHeartbeats 2000000 in
theorem mayv_any (x y z : Int) (w : World) :
    Calls Try.prog 19 #[.agg #[.int .i64 x, .int .i64 y, .int .i64 z]] w fun e w' => e = .returned (.bool (ok3 x y z)) ∧ Ext w w' := by
  have HM : Hid (∀ v w', Calls Try.prog 18 #[.int .i64 v] w' fun e w'' => e = .returned (.bool (okW v)) ∧ w'' = w') := may_any
  unfold ok3
  cases h0 : okW x
  · go_enter Try.func19, Try.ntmps19
    go_wp2_with (go_at_call 18; refine (HM.out _ _).mono ?_; rintro e wx ⟨rfl, hwx⟩; have hwy := hwx.symm; clear hwx; subst hwy)
    go_ret
    exact ⟨rfl, (Ext.refl _).alloc _⟩
  · cases h1 : okW y
    · go_enter Try.func19, Try.ntmps19
      go_wp2_with (go_at_call 18; refine (HM.out _ _).mono ?_; rintro e wx ⟨rfl, hwx⟩; have hwy := hwx.symm; clear hwx; subst hwy)
      go_ret
      exact ⟨rfl, (Ext.refl _).alloc _⟩
    · go_enter Try.func19, Try.ntmps19
      go_wp2_with (go_at_call 18; refine (HM.out _ _).mono ?_; rintro e wx ⟨rfl, hwx⟩; have hwy := hwx.symm; clear hwx; subst hwy)
      go_ret
      exact ⟨rfl, (Ext.refl _).alloc _⟩


/-- a number brought to from -m to m -/
def brt (m v : Int) : Int := v % 18446744073709551616 % (2 * m + 1) - m
theorem brt_bounds (m v : Int) (h : 0 ≤ m) : -m ≤ brt m v ∧ brt m v ≤ m := by
  have h1 := Int.emod_nonneg (v % 18446744073709551616) (show 2 * m + 1 ≠ 0 by omega)
  have h2 := Int.emod_lt_of_pos (v % 18446744073709551616) (show 0 < 2 * m + 1 by omega)
  unfold brt
  omega


set_option maxHeartbeats 1000000 in
theorem brought_1073741824 (v : Int) (w : World) :
    Calls Try.prog 33 #[.int .i64 v, .int .i64 1073741824] w fun e w' => e = .returned (.int .i64 (brt 1073741824 v)) ∧ w' = w := by
  have hb := brt_bounds 1073741824 v (by omega)
  have hd : Hid (brt 1073741824 v = v % 18446744073709551616 % 2147483649 - 1073741824) := rfl
  obtain ⟨X, hX, hX0, hX1⟩ : ∃ X : Int, IntKind.u64.wrap v = X ∧ 0 ≤ X ∧ X ≤ 18446744073709551615 := ⟨_, rfl, by rw [IntKind.wrap_u64]; omega, by rw [IntKind.wrap_u64]; omega⟩
  have hE : Hid (X % 2147483649 - 1073741824 = brt 1073741824 v) := by
    show _ = _
    rw [hd.out, ← hX, IntKind.wrap_u64]
  have h1 : 0 ≤ X % 2147483649 := by omega
  have h2 : X % 2147483649 ≤ 2147483648 := by omega
  clear hd hb
  go_enter Try.func33, Try.ntmps33
  go_wp2_with fail
  go_ret
  exact ⟨ret_int hE.out, rfl⟩

set_option maxHeartbeats 4000000 in
theorem brvec_1073741824 (a0 a1 a2 : Int) (w : World) :
    Calls Try.prog 16 #[.agg #[.int .i64 a0, .int .i64 a1, .int .i64 a2], .int .i64 1073741824] w fun e w' => e = .returned (.agg #[.int .i64 (brt 1073741824 a0), .int .i64 (brt 1073741824 a1), .int .i64 (brt 1073741824 a2)]) ∧ Ext w w' := by
  have B0 : Hid (∀ w', Calls Try.prog 33 #[.int .i64 a0, .int .i64 1073741824] w' fun e w'' => e = .returned (.int .i64 (brt 1073741824 a0)) ∧ w'' = w') := fun w' => brought_1073741824 a0 w'
  have B1 : Hid (∀ w', Calls Try.prog 33 #[.int .i64 a1, .int .i64 1073741824] w' fun e w'' => e = .returned (.int .i64 (brt 1073741824 a1)) ∧ w'' = w') := fun w' => brought_1073741824 a1 w'
  have B2 : Hid (∀ w', Calls Try.prog 33 #[.int .i64 a2, .int .i64 1073741824] w' fun e w'' => e = .returned (.int .i64 (brt 1073741824 a2)) ∧ w'' = w') := fun w' => brought_1073741824 a2 w'
  generalize brt 1073741824 a0 = r0 at *
  generalize brt 1073741824 a1 = r1 at *
  generalize brt 1073741824 a2 = r2 at *
  have ne1 : w.heap.size ≠ w.heap.size + 1 := by omega
  have H0 : H3 ((w.alloc (.cells #[.int .i64 a0, .int .i64 a1, .int .i64 a2] 24)).alloc (.cells #[.int .i64 0, .int .i64 0, .int .i64 0] 24)).drew w.heap.size (.int .i64 a0) (.int .i64 a1) (.int .i64 a2) := H3.drew (H3.alloc (h3_at rfl) _)
  obtain ⟨p0, p1, p2, p3, p4, p5, p6⟩ := H0
  go_enter Try.func16, Try.ntmps16
  go_wp2_with fail
  go_region_held (fun w' => w'.cell? ⟨w.heap.size, 0, none⟩ = some (.int .i64 a0) ∧ w'.cell? ⟨w.heap.size, 1, none⟩ = some (.int .i64 a1) ∧ w'.cell? ⟨w.heap.size, 2, none⟩ = some (.int .i64 a2)) (first | (go_keep; done) | (simp [go_sem]; done)) (first | (go_at_call_of 33 (Value.int IntKind.i64 a0); refine (B0.out _).mono ?_; rintro e wx ⟨rfl, hwx⟩; have hwy := hwx.symm; clear hwx; subst hwy) | (go_at_call_of 33 (Value.int IntKind.i64 a1); refine (B1.out _).mono ?_; rintro e wx ⟨rfl, hwx⟩; have hwy := hwx.symm; clear hwx; subst hwy) | (go_at_call_of 33 (Value.int IntKind.i64 a2); refine (B2.out _).mono ?_; rintro e wx ⟨rfl, hwx⟩; have hwy := hwx.symm; clear hwx; subst hwy))
  all_goals
    go_wp2_with fail
    exact bodyPost_ret (v := .agg #[.int .i64 r0, .int .i64 r1, .int .i64 r2]) (by simp [results, Try.results16, go_sem]) rfl ⟨rfl, by repeat (first | with_reducible assumption | with_reducible exact Ext.refl _ | with_reducible refine Ext.drew ?_ | with_reducible refine Ext.drewN ?_ _ | with_reducible refine Ext.alloc ?_ _ | with_reducible refine Ext.set ?_ (by first | exact Nat.le_refl _ | (dsimp only; omega) | (simp; done)) _)⟩


set_option maxHeartbeats 1000000 in
theorem brought_1099511627776 (v : Int) (w : World) :
    Calls Try.prog 33 #[.int .i64 v, .int .i64 1099511627776] w fun e w' => e = .returned (.int .i64 (brt 1099511627776 v)) ∧ w' = w := by
  have hb := brt_bounds 1099511627776 v (by omega)
  have hd : Hid (brt 1099511627776 v = v % 18446744073709551616 % 2199023255553 - 1099511627776) := rfl
  obtain ⟨X, hX, hX0, hX1⟩ : ∃ X : Int, IntKind.u64.wrap v = X ∧ 0 ≤ X ∧ X ≤ 18446744073709551615 := ⟨_, rfl, by rw [IntKind.wrap_u64]; omega, by rw [IntKind.wrap_u64]; omega⟩
  have hE : Hid (X % 2199023255553 - 1099511627776 = brt 1099511627776 v) := by
    show _ = _
    rw [hd.out, ← hX, IntKind.wrap_u64]
  have h1 : 0 ≤ X % 2199023255553 := by omega
  have h2 : X % 2199023255553 ≤ 2199023255552 := by omega
  clear hd hb
  go_enter Try.func33, Try.ntmps33
  go_wp2_with fail
  go_ret
  exact ⟨ret_int hE.out, rfl⟩

set_option maxHeartbeats 4000000 in
theorem brvec_1099511627776 (a0 a1 a2 : Int) (w : World) :
    Calls Try.prog 16 #[.agg #[.int .i64 a0, .int .i64 a1, .int .i64 a2], .int .i64 1099511627776] w fun e w' => e = .returned (.agg #[.int .i64 (brt 1099511627776 a0), .int .i64 (brt 1099511627776 a1), .int .i64 (brt 1099511627776 a2)]) ∧ Ext w w' := by
  have B0 : Hid (∀ w', Calls Try.prog 33 #[.int .i64 a0, .int .i64 1099511627776] w' fun e w'' => e = .returned (.int .i64 (brt 1099511627776 a0)) ∧ w'' = w') := fun w' => brought_1099511627776 a0 w'
  have B1 : Hid (∀ w', Calls Try.prog 33 #[.int .i64 a1, .int .i64 1099511627776] w' fun e w'' => e = .returned (.int .i64 (brt 1099511627776 a1)) ∧ w'' = w') := fun w' => brought_1099511627776 a1 w'
  have B2 : Hid (∀ w', Calls Try.prog 33 #[.int .i64 a2, .int .i64 1099511627776] w' fun e w'' => e = .returned (.int .i64 (brt 1099511627776 a2)) ∧ w'' = w') := fun w' => brought_1099511627776 a2 w'
  generalize brt 1099511627776 a0 = r0 at *
  generalize brt 1099511627776 a1 = r1 at *
  generalize brt 1099511627776 a2 = r2 at *
  have ne1 : w.heap.size ≠ w.heap.size + 1 := by omega
  have H0 : H3 ((w.alloc (.cells #[.int .i64 a0, .int .i64 a1, .int .i64 a2] 24)).alloc (.cells #[.int .i64 0, .int .i64 0, .int .i64 0] 24)).drew w.heap.size (.int .i64 a0) (.int .i64 a1) (.int .i64 a2) := H3.drew (H3.alloc (h3_at rfl) _)
  obtain ⟨p0, p1, p2, p3, p4, p5, p6⟩ := H0
  go_enter Try.func16, Try.ntmps16
  go_wp2_with fail
  go_region_held (fun w' => w'.cell? ⟨w.heap.size, 0, none⟩ = some (.int .i64 a0) ∧ w'.cell? ⟨w.heap.size, 1, none⟩ = some (.int .i64 a1) ∧ w'.cell? ⟨w.heap.size, 2, none⟩ = some (.int .i64 a2)) (first | (go_keep; done) | (simp [go_sem]; done)) (first | (go_at_call_of 33 (Value.int IntKind.i64 a0); refine (B0.out _).mono ?_; rintro e wx ⟨rfl, hwx⟩; have hwy := hwx.symm; clear hwx; subst hwy) | (go_at_call_of 33 (Value.int IntKind.i64 a1); refine (B1.out _).mono ?_; rintro e wx ⟨rfl, hwx⟩; have hwy := hwx.symm; clear hwx; subst hwy) | (go_at_call_of 33 (Value.int IntKind.i64 a2); refine (B2.out _).mono ?_; rintro e wx ⟨rfl, hwx⟩; have hwy := hwx.symm; clear hwx; subst hwy))
  all_goals
    go_wp2_with fail
    exact bodyPost_ret (v := .agg #[.int .i64 r0, .int .i64 r1, .int .i64 r2]) (by simp [results, Try.results16, go_sem]) rfl ⟨rfl, by repeat (first | with_reducible assumption | with_reducible exact Ext.refl _ | with_reducible refine Ext.drew ?_ | with_reducible refine Ext.drewN ?_ _ | with_reducible refine Ext.alloc ?_ _ | with_reducible refine Ext.set ?_ (by first | exact Nat.le_refl _ | (dsimp only; omega) | (simp; done)) _)⟩


set_option maxHeartbeats 1000000 in
theorem within_256 (v : Int) (w : World) :
    Calls Try.prog 17 #[.int .i64 v, .int .i64 256] w fun e w' => e = .returned (.int .i64 (v % 256)) ∧ w' = w := by
  obtain ⟨X, hX, hX0, hX1⟩ : ∃ X : Int, IntKind.u64.wrap v = X ∧ 0 ≤ X ∧ X ≤ 18446744073709551615 := ⟨_, rfl, by rw [IntKind.wrap_u64]; omega, by rw [IntKind.wrap_u64]; omega⟩
  have hE : Hid (X % 256 = v % 256) := by
    show _ = _
    rw [← hX, IntKind.wrap_u64]; omega
  have h1 : 0 ≤ X % 256 := by omega
  have h2 : X % 256 ≤ 255 := by omega
  go_enter Try.func17, Try.ntmps17
  go_wp2_with fail
  go_ret
  exact ⟨ret_int hE.out, rfl⟩
set_option maxRecDepth 20000 in
set_option maxHeartbeats 1000000 in
theorem plain_any (w : World) : Calls Try.prog 13 #[] w fun e w' => e = .returned (.agg #[.int .i64 0, .int .i64 0, .int .i64 0, .int .i64 0, .int .i64 0, .int .i64 0, .int .i64 0, .int .i64 1073741824, .int .i64 0, .int .i64 0, .int .i64 0, .int .i64 1073741824, .int .i64 0, .int .i64 0, .int .i64 0, .int .i64 1073741824]) ∧ Ext w w' := by
  go_enter Try.func13, Try.ntmps13
  go_wp2_with fail
  exact bodyPost_ret (v := .agg #[.int .i64 0, .int .i64 0, .int .i64 0, .int .i64 0, .int .i64 0, .int .i64 0, .int .i64 0, .int .i64 1073741824, .int .i64 0, .int .i64 0, .int .i64 0, .int .i64 1073741824, .int .i64 0, .int .i64 0, .int .i64 0, .int .i64 1073741824]) (by simp [results, Try.results13, go_sem]) rfl ⟨rfl, by repeat (first | with_reducible assumption | with_reducible exact Ext.refl _ | with_reducible refine Ext.drew ?_ | with_reducible refine Ext.drewN ?_ _ | with_reducible refine Ext.alloc ?_ _ | with_reducible refine Ext.set ?_ (by first | exact Nat.le_refl _ | (dsimp only; omega) | (simp; done)) _)⟩
set_option maxRecDepth 20000 in
set_option maxHeartbeats 1000000 in
theorem rplain_any (w : World) : Calls Try.prog 14 #[] w fun e w' => e = .returned (.agg #[.int .i64 0, .int .i64 0, .int .i64 0, .int .i64 0, .int .i64 0, .int .i64 0, .int .i64 0, .int .i64 1073741824, .int .i64 0, .int .i64 0, .int .i64 0, .int .i64 1073741824, .int .i64 0, .int .i64 0, .int .i64 0, .int .i64 1073741824]) ∧ Ext w w' := by
  go_enter Try.func14, Try.ntmps14
  go_wp2_with fail
  exact bodyPost_ret (v := .agg #[.int .i64 0, .int .i64 0, .int .i64 0, .int .i64 0, .int .i64 0, .int .i64 0, .int .i64 0, .int .i64 1073741824, .int .i64 0, .int .i64 0, .int .i64 0, .int .i64 1073741824, .int .i64 0, .int .i64 0, .int .i64 0, .int .i64 1073741824]) (by simp [results, Try.results14, go_sem]) rfl ⟨rfl, by repeat (first | with_reducible assumption | with_reducible exact Ext.refl _ | with_reducible refine Ext.drew ?_ | with_reducible refine Ext.drewN ?_ _ | with_reducible refine Ext.alloc ?_ _ | with_reducible refine Ext.set ?_ (by first | exact Nat.le_refl _ | (dsimp only; omega) | (simp; done)) _)⟩

/-- a matrix with a on its diagonal -/
def dg (a : Int) : Nat → Int
  | 0 => a
  | 4 => a
  | 8 => a
  | _ => 0
theorem nearQ_whole (z : Int) : nearQ (z * 1073741824) = z := by
  unfold nearQ oddQ; omega
theorem okW_of {a : Int} (h1 : -35184372088832 < a) (h2 : a < 35184372088832) : okW a = true := by
  unfold okW; simp; omega
theorem vres_ok {s0 s1 s2 : Int} (h : ok3 s0 s1 s2 = true) : vres s0 s1 s2 = .tuple #[.agg #[.int .i64 s0, .int .i64 s1, .int .i64 s2], .int .i64 0] := by unfold vres; rw [if_pos h]
theorem okM_dg {a : Int} (h : okW a = true) : okM (dg a) = true := by
  have h0 : okW 0 = true := by decide
  unfold okM dg; simp only [h, h0]; rfl
theorem rowU_dg (k : Int) (u : Nat → Int) (i : Nat) (hi : i < 3) : nearQ (rowU (dg (k * 1073741824)) u i) = k * u i := by
  have e : rowU (dg (k * 1073741824)) u i = k * u i * 1073741824 := by
    rw [rowU_eq]
    match i, hi with
    | 0, _ => show u 0 * (k * 1073741824) + u 1 * 0 + u 2 * 0 = _; rw [Int.mul_zero, Int.mul_zero, Int.add_zero, Int.add_zero, ← Int.mul_assoc, Int.mul_comm (u 0) k]
    | 1, _ => show u 0 * 0 + u 1 * (k * 1073741824) + u 2 * 0 = _; rw [Int.mul_zero, Int.mul_zero, Int.add_zero, Int.zero_add, ← Int.mul_assoc, Int.mul_comm (u 1) k]
    | 2, _ => show u 0 * 0 + u 1 * 0 + u 2 * (k * 1073741824) = _; rw [Int.mul_zero, Int.mul_zero, Int.add_zero, Int.zero_add, ← Int.mul_assoc, Int.mul_comm (u 2) k]
  rw [e, nearQ_whole]
/-- what the matrix with k on its diagonal tells -/
theorem calR_dg (k : Int) (b0 b1 b2 h0 h1 h2 rf x y z t : Int) (hk : k = 1 ∨ k = 2) (hr : okR x y z t = true) (hf : -128 ≤ rf ∧ rf ≤ 127) (hb : ok3 b0 b1 b2 = true) (hh : ok3 h0 h1 h2 = true)
    (hw : ok3 (k * clr x b0 h0 (t - rf)) (k * clr y b1 h1 (t - rf)) (k * clr z b2 h2 (t - rf)) = true) :
    calR b0 b1 b2 h0 h1 h2 rf (dg (k * 1073741824)) x y z t = .tuple #[.agg #[.int .i64 (k * clr x b0 h0 (t - rf)), .int .i64 (k * clr y b1 h1 (t - rf)), .int .i64 (k * clr z b2 h2 (t - rf))], .int .i64 0] := by
  have hc : okC b0 b1 b2 h0 h1 h2 rf (dg (k * 1073741824)) = true := by
    unfold okC; rw [inn_iff.2 hf, hb, hh, okM_dg (okW_of (by omega) (by omega))]; rfl
  unfold calR
  rw [hc, hr, rowU_dg k _ 0 (by omega), rowU_dg k _ 1 (by omega), rowU_dg k _ 2 (by omega)]
  exact vres_ok hw
set_option maxRecDepth 20000 in
set_option maxHeartbeats 1000000 in
theorem wakes10_any (w : World) :
    Calls Try.prog 15 #[] w fun e w' => e = .returned (.bool true) ∧ Ext w w' := by
  have HA : Hid (∀ w', Calls Try.prog 10 #[.agg #[.int .i64 0, .int .i64 0, .int .i64 0, .int .i64 0, .int .i64 0, .int .i64 0, .int .i64 0, .int .i64 1073741824, .int .i64 0, .int .i64 0, .int .i64 0, .int .i64 1073741824, .int .i64 0, .int .i64 0, .int .i64 0, .int .i64 1073741824], .agg #[.int .i64 1, .int .i64 2, .int .i64 3, .int .i64 0]] w' fun e w'' => e = .returned (.tuple #[.agg #[.int .i64 1024, .int .i64 2048, .int .i64 3072], .int .i64 0]) ∧ Ext w' w'') := fun w' => by
    have h := cApply_any 0 0 0 0 0 0 0 (dg (1 * 1073741824)) 1 2 3 0 w'
    rw [calR_dg 1 0 0 0 0 0 0 0 1 2 3 0 (.inl rfl) (by decide) (by decide) (by decide) (by decide) (by decide)] at h
    exact h
  have HP : Hid _ := plain_any
  go_enter Try.func15, Try.ntmps15
  go_wp2_with fail
  refine (HP.out _).mono ?_
  rintro e w1 ⟨rfl, x1⟩
  go_wp2_with fail
  refine (HA.out _).mono ?_
  rintro e w2 ⟨rfl, x2⟩
  have X2 : Ext w w2 := x1.trans x2
  go_wp2_with (go_at_call 11; refine (num10_any _ _).mono ?_; rintro e wx ⟨rfl, hwx⟩; have hwy := hwx.symm; clear hwx; subst hwy)
  go_ret
  exact ⟨rfl, by repeat (first | with_reducible assumption | with_reducible exact Ext.refl _ | with_reducible refine Ext.drew ?_ | with_reducible refine Ext.drewN ?_ _ | with_reducible refine Ext.alloc ?_ _ | with_reducible refine Ext.set ?_ (by first | exact Nat.le_refl _ | (dsimp only; omega) | (simp; done)) _)⟩

/-! Ca5 -/
/-- a list of Ask: cell j of entry i holds the number Z i j -/
def Asks (w : World) (b off len : Nat) (Z : Nat → Nat → Int) : Prop :=
  ∀ i, i < len → ∀ j, j < 20 → w.cell? ⟨b, off + i * 20 + j, none⟩ = some (.int .i64 (Z i j)) ∧ -9223372036854775808 ≤ Z i j ∧ Z i j ≤ 9223372036854775807
theorem Asks.ext {w w' : World} {b off len : Nat} {Z : Nat → Nat → Int} (h : Asks w b off len Z) (hx : Ext w w') : Asks w' b off len Z := by
  intro i hi j hj
  obtain ⟨h1, h2⟩ := h i hi j hj
  refine ⟨?_, h2⟩
  rw [(hx.lay).1 b _ (cell_lt h1)]
  exact h1
theorem Asks.row {w : World} {b off len : Nat} {Z : Nat → Nat → Int} (h : Asks w b off len Z) {k : Nat} (hk : k < len) : w.rangeAt b (off + k * 20) [.int .i64 (Z k 0), .int .i64 (Z k 1), .int .i64 (Z k 2), .int .i64 (Z k 3), .int .i64 (Z k 4), .int .i64 (Z k 5), .int .i64 (Z k 6), .int .i64 (Z k 7), .int .i64 (Z k 8), .int .i64 (Z k 9), .int .i64 (Z k 10), .int .i64 (Z k 11), .int .i64 (Z k 12), .int .i64 (Z k 13), .int .i64 (Z k 14), .int .i64 (Z k 15), .int .i64 (Z k 16), .int .i64 (Z k 17), .int .i64 (Z k 18), .int .i64 (Z k 19)] := fun j v hv => by
  have hj : j < 20 := (List.getElem?_eq_some_iff.1 hv).1
  refine ((h k hk j hj).1).trans ?_
  rw [← hv]
  match j, hj with
  | 0, _ => rfl
  | 1, _ => rfl
  | 2, _ => rfl
  | 3, _ => rfl
  | 4, _ => rfl
  | 5, _ => rfl
  | 6, _ => rfl
  | 7, _ => rfl
  | 8, _ => rfl
  | 9, _ => rfl
  | 10, _ => rfl
  | 11, _ => rfl
  | 12, _ => rfl
  | 13, _ => rfl
  | 14, _ => rfl
  | 15, _ => rfl
  | 16, _ => rfl
  | 17, _ => rfl
  | 18, _ => rfl
  | 19, _ => rfl
theorem setCells_new (T : TypeId) : ∀ (vs pre rest : List Value) (w : World), rest.length = vs.length → (w.alloc (.cells (pre ++ rest).toArray T)).setCells w.heap.size pre.length vs = w.alloc (.cells (pre ++ vs).toArray T)
  | [], pre, rest, w, h => by
    have : rest = [] := List.length_eq_zero_iff.1 h
    subst this; rfl
  | v :: vs, pre, [], w, h => by simp at h
  | v :: vs, pre, r :: rest, w, h => by
    show ((w.alloc (.cells (pre ++ r :: rest).toArray T)).setCell ⟨w.heap.size, pre.length, none⟩ v).setCells w.heap.size (pre.length + 1) vs = _
    rw [World.setCell_alloc_new]
    have e : (pre ++ r :: rest).toArray.setIfInBounds pre.length v = ((pre ++ [v]) ++ rest).toArray := by simp
    have k := setCells_new T vs (pre ++ [v]) rest w (by simpa using h)
    rw [e]
    rw [show pre.length + 1 = (pre ++ [v]).length by simp, k]
    simp
/-- a variable that is made and stored whole -/
theorem wpList_store_new {ops : Array Oper} {rest : List Oper} {op : Oper} {a : Act} {w : World} {Q : Exit → Act → World → Prop} (T : TypeId) (zs cs : List Value) (hgd : op.guard = none) (ty : TypeId) (x y : Operand) (ho : op.op = .store ty x y)
    (hx : a.eval x = .pointer (some ⟨w.heap.size, 0, none⟩)) (hy : a.eval y = .agg cs.toArray) (hz : zs.length = cs.length)
    (hi : (Try.prog.info? ty).map (·.size) = some cs.length) (h1 : ∀ v ∈ cs, v.oneCell' = true)
    (h : wpList Try.prog ops Q rest (a.put op.dst undef) (w.alloc (.cells cs.toArray T))) : wpList Try.prog ops Q (op :: rest) a (w.alloc (.cells zs.toArray T)) := by
  have V : HV (w.alloc (.cells zs.toArray T)) w.heap.size zs := hv_at rfl
  have ht : (w.alloc (.cells zs.toArray T)).there w.heap.size 0 cs.toArray.size := fun j hj => by
    have hj' : j < zs.length := by simp at hj; omega
    rw [Nat.zero_add, V.c j (List.getElem?_eq_getElem hj')]
    exact ⟨rfl, V.f j (List.getElem?_eq_getElem hj')⟩
  refine wpList_store_mid hgd ty x y ho w.heap.size 0 cs.toArray hx hy ht (by simpa using hi) (all_oneCell_toArray h1) ?_
  have e := setCells_new T cs [] zs w hz
  rw [List.nil_append, List.nil_append] at e
  show wpList Try.prog ops Q rest _ ((w.alloc (.cells zs.toArray T)).setCells w.heap.size 0 cs)
  have e' : (w.alloc (.cells zs.toArray T)).setCells w.heap.size 0 cs = w.alloc (.cells cs.toArray T) := e
  rw [e']
  exact h

/-! Ca6 -/
theorem HV.take {w : World} {b : Nat} {vs : List Value} (h : HV w b vs) (n : Nat) : w.rangeAt b 0 (vs.take n) := fun j v hv => by
  rw [Nat.zero_add]
  by_cases hj : j < n
  · rw [List.getElem?_take_of_lt hj] at hv
    exact h.c j hv
  · rw [List.getElem?_eq_none (by rw [List.length_take]; omega)] at hv
    cases hv
theorem size_setCells (b : Nat) : ∀ (vs : List Value) (o : Nat) (w : World), (w.setCells b o vs).heap.size = w.heap.size
  | [], _, _ => rfl
  | v :: vs, o, w => by
    show ((w.setCell ⟨b, o, none⟩ v).setCells b (o + 1) vs).heap.size = _
    rw [size_setCells b vs (o + 1)]
    simp
theorem ext_setCells {a : World} (b : Nat) (hb : a.heap.size ≤ b) : ∀ (vs : List Value) (o : Nat) (w : World), Ext a w → Ext a (w.setCells b o vs)
  | [], _, _, h => h
  | v :: vs, o, _, h => ext_setCells b hb vs (o + 1) _ (h.set (p := ⟨b, o, none⟩) hb v)
theorem HV.put {w : World} {b : Nat} {vs0 : List Value} (h : HV w b vs0) (vs : List Value) (hl : vs.length = vs0.length) : HV (w.setCells b 0 vs) b vs := by
  have hs : ∀ j, j < vs.length → (w.cell? ⟨b, 0 + j, none⟩).isSome = true := fun j hj => by
    rw [Nat.zero_add, h.c j (List.getElem?_eq_getElem (by omega : j < vs0.length))]; rfl
  refine ⟨by rw [size_setCells]; exact h.1, fun j v hv => ?_⟩
  have hj : j < vs.length := (List.getElem?_eq_some_iff.1 hv).1
  have e := World.cell?_setCells_in b vs 0 w hs j hj
  rw [Nat.zero_add] at e
  refine ⟨?_, ?_⟩
  · rw [e]; rw [List.getElem?_eq_getElem hj] at hv; exact hv
  · rw [World.frozen?_setCells]
    exact h.f j (List.getElem?_eq_getElem (by omega : j < vs0.length))
theorem HV.apart {w : World} {b g : Nat} {us : List Value} (h : HV w b us) (hb : b ≠ g) : ∀ (vs : List Value) (o : Nat), HV (w.setCells g o vs) b us := fun vs o => by
  refine ⟨by rw [size_setCells]; exact h.1, fun j v hv => ?_⟩
  obtain ⟨h1, h2⟩ := h.2 j v hv
  refine ⟨?_, by rw [World.frozen?_setCells]; exact h2⟩
  rw [World.cell?_setCells_out g vs o w _ (fun e => absurd e hb)]
  exact h1
/-- a variable that is stored whole -/
theorem wpList_store_var {ops : Array Oper} {rest : List Oper} {op : Oper} {a : Act} {w : World} {Q : Exit → Act → World → Prop} (b : Nat) (zs cs : List Value) (hgd : op.guard = none) (ty : TypeId) (x y : Operand) (ho : op.op = .store ty x y)
    (hx : a.eval x = .pointer (some ⟨b, 0, none⟩)) (hy : a.eval y = .agg cs.toArray) (hV : HV w b zs) (hz : zs.length = cs.length)
    (hi : (Try.prog.info? ty).map (·.size) = some cs.length) (h1 : ∀ v ∈ cs, v.oneCell' = true)
    (h : ∀ w', Hid (HV w' b cs) → Hid (∀ b' vs, b' ≠ b → HV w b' vs → HV w' b' vs) → Hid (∀ a, Ext a w → a.heap.size ≤ b → Ext a w') → wpList Try.prog ops Q rest (a.put op.dst undef) w') : wpList Try.prog ops Q (op :: rest) a w := by
  have ht : w.there b 0 cs.toArray.size := fun j hj => by
    have hj' : j < zs.length := by simp at hj; omega
    rw [Nat.zero_add, hV.c j (List.getElem?_eq_getElem hj')]
    exact ⟨rfl, hV.f j (List.getElem?_eq_getElem hj')⟩
  refine wpList_store_mid hgd ty x y ho b 0 cs.toArray hx hy ht (by simpa using hi) (all_oneCell_toArray h1) ?_
  exact h _ (hV.put cs hz.symm) (fun b' vs hb hv => hv.apart hb cs 0) (fun a ha hb => ext_setCells b hb cs 0 w ha)
theorem m_at {w : World} {n : Nat} {b0 b1 b2 h0 h1 h2 rf : Int} {m : Nat → Int} (h : HV w n [.int .i64 b0, .int .i64 b1, .int .i64 b2, .int .i64 h0, .int .i64 h1, .int .i64 h2, .int .i64 rf, .int .i64 (m 0), .int .i64 (m 1), .int .i64 (m 2), .int .i64 (m 3), .int .i64 (m 4), .int .i64 (m 5), .int .i64 (m 6), .int .i64 (m 7), .int .i64 (m 8)]) {k : Nat} (hk : k < 9) : w.cell? ⟨n, 7 + k, none⟩ = some (.int .i64 (m k)) := by
  refine h.c (7 + k) ?_
  obtain rfl | rfl | rfl | rfl | rfl | rfl | rfl | rfl | rfl : k = 0 ∨ k = 1 ∨ k = 2 ∨ k = 3 ∨ k = 4 ∨ k = 5 ∨ k = 6 ∨ k = 7 ∨ k = 8 := by omega
  all_goals rfl
set_option maxRecDepth 20000 in
set_option maxHeartbeats 4000000 in
theorem maycal_any (b0 b1 b2 h0 h1 h2 rf : Int) (m : Nat → Int) (w : World) : Calls Try.prog 7 #[.agg #[.int .i64 b0, .int .i64 b1, .int .i64 b2, .int .i64 h0, .int .i64 h1, .int .i64 h2, .int .i64 rf, .int .i64 (m 0), .int .i64 (m 1), .int .i64 (m 2), .int .i64 (m 3), .int .i64 (m 4), .int .i64 (m 5), .int .i64 (m 6), .int .i64 (m 7), .int .i64 (m 8)]] w fun e w' => e = .returned (.bool (okC b0 b1 b2 h0 h1 h2 rf m)) ∧ Ext w w' := by
  have HM : Hid (∀ v w', Calls Try.prog 18 #[.int .i64 v] w' fun e w'' => e = .returned (.bool (okW v)) ∧ w'' = w') := may_any
  have HB : Hid (∀ w, Calls Try.prog 19 #[.agg #[.int .i64 b0, .int .i64 b1, .int .i64 b2]] w fun e w' => e = .returned (.bool (ok3 b0 b1 b2)) ∧ Ext w w') := mayv_any b0 b1 b2
  have HH : Hid (∀ w, Calls Try.prog 19 #[.agg #[.int .i64 h0, .int .i64 h1, .int .i64 h2]] w fun e w' => e = .returned (.bool (ok3 h0 h1 h2)) ∧ Ext w w') := mayv_any h0 h1 h2
  have HN : Hid (∀ k, k < 9 → okW (m k) = false → okC b0 b1 b2 h0 h1 h2 rf m = false) := fun k hk h => by
    unfold okC; rw [okM_no hk h]; cases inn rf (-128) 127 <;> cases ok3 b0 b1 b2 <;> cases ok3 h0 h1 h2 <;> rfl
  have HG : Hid ((∀ k, k < 9 → okW (m k) = true) → okC b0 b1 b2 h0 h1 h2 rf m = (ok3 b0 b1 b2 && ok3 h0 h1 h2 && (decide (-128 ≤ rf) && decide (rf ≤ 127)))) := fun h => by
    unfold okC; rw [okM_of h]
    have e4 : inn rf (-128) 127 = (decide ((-128 : Int) ≤ rf) && decide (rf ≤ 127)) := by unfold inn; simp
    rw [e4]
    cases decide ((-128 : Int) ≤ rf) <;> cases decide (rf ≤ 127) <;> cases ok3 b0 b1 b2 <;> cases ok3 h0 h1 h2 <;> rfl
  generalize okC b0 b1 b2 h0 h1 h2 rf m = R at *
  generalize ok3 b0 b1 b2 = p1 at *
  generalize ok3 h0 h1 h2 = p2 at *
  have FB : Hid (HV (w.alloc (.cells #[.int .i64 b0, .int .i64 b1, .int .i64 b2, .int .i64 h0, .int .i64 h1, .int .i64 h2, .int .i64 rf, .int .i64 (m 0), .int .i64 (m 1), .int .i64 (m 2), .int .i64 (m 3), .int .i64 (m 4), .int .i64 (m 5), .int .i64 (m 6), .int .i64 (m 7), .int .i64 (m 8)] 27)) w.heap.size [.int .i64 b0, .int .i64 b1, .int .i64 b2, .int .i64 h0, .int .i64 h1, .int .i64 h2, .int .i64 rf, .int .i64 (m 0), .int .i64 (m 1), .int .i64 (m 2), .int .i64 (m 3), .int .i64 (m 4), .int .i64 (m 5), .int .i64 (m 6), .int .i64 (m 7), .int .i64 (m 8)]) := hv_at rfl
  have HX : Hid (Ext w (w.alloc (.cells #[.int .i64 b0, .int .i64 b1, .int .i64 b2, .int .i64 h0, .int .i64 h1, .int .i64 h2, .int .i64 rf, .int .i64 (m 0), .int .i64 (m 1), .int .i64 (m 2), .int .i64 (m 3), .int .i64 (m 4), .int .i64 (m 5), .int .i64 (m 6), .int .i64 (m 7), .int .i64 (m 8)] 27))) := (Ext.refl w).alloc _
  go_enter Try.func7, Try.ntmps7
  go_wp2_with fail
  generalize (w.alloc (.cells #[.int .i64 b0, .int .i64 b1, .int .i64 b2, .int .i64 h0, .int .i64 h1, .int .i64 h2, .int .i64 rf, .int .i64 (m 0), .int .i64 (m 1), .int .i64 (m 2), .int .i64 (m 3), .int .i64 (m 4), .int .i64 (m 5), .int .i64 (m 6), .int .i64 (m 7), .int .i64 (m 8)] 27)) = wB at *
  go_loopw [3] (fun i wr => ∃ k : Nat, k ≤ 9 ∧ i = .int .i64 (k : Int) ∧ Hid (∀ i, i < k → okW (m i) = true) ∧ Hid (Ext wB wr)) (fun i _ => 9 - (intOf i).toNat)
  case atStart => exact ⟨0, by omega, rfl, fun i hi => by omega, Ext.refl _⟩
  case round =>
    obtain ⟨k, hk, rfl, hok, hx⟩ := hrel
    by_cases hlt : k < 9
    · have kx : (k : Int) < 9 := by omega
      have hc := m_at (FB.out.ext hx.out) hlt
      cases ho : okW (m k)
      · have e1 : R = false := HN.out k hlt ho
        subst e1
        have ho' : Hid (∀ w', Calls Try.prog 18 #[.int .i64 (m k)] w' fun e w'' => e = .returned (.bool false) ∧ w'' = w') := fun w' => by have h := HM.out (m k) w'; rw [ho] at h; exact h
        clear HN HG ho hok
        generalize m k = mk at *
        go_wp2_with (go_at_call 18; refine (ho'.out _).mono ?_; rintro e wx ⟨rfl, hwx⟩; have hwy := hwx.symm; clear hwx; subst hwy)
        go_ret
        exact ⟨rfl, HX.out.trans hx.out⟩
      · have H1 : Hid (∀ i, i < k + 1 → okW (m i) = true) := fun i hi => by
          rcases Nat.lt_or_ge i k with h | h
          · exact hok.out i h
          · obtain rfl : i = k := by omega
            exact ho
        have ho' : Hid (∀ w', Calls Try.prog 18 #[.int .i64 (m k)] w' fun e w'' => e = .returned (.bool true) ∧ w'' = w') := fun w' => by have h := HM.out (m k) w'; rw [ho] at h; exact h
        clear HN HG ho hok HB HH
        have ho' := ho'.out
        generalize m k = mk at hc ho'
        have ho' : Hid _ := ho'
        go_wp2_with (go_at_call 18; refine (ho'.out _).mono ?_; rintro e wx ⟨rfl, hwx⟩; have hwy := hwx.symm; clear hwx; subst hwy)
        go_roundw
        case rel => exact ⟨k + 1, by omega, by go_num, H1, hx⟩
        case measure => simp [intOf]; omega
    · have hk9 : k = 9 := by omega
      subst hk9
      have e1 : Hid (R = (p1 && p2 && (decide (-128 ≤ rf) && decide (rf ≤ 127)))) := HG.out hok.out
      obtain ⟨c0, c1, c2, c3, c4, c5, c6, c7, c8, c9, c10, c11, c12, c13, c14, c15⟩ := (FB.out.ext hx.out).k16
      clear HN HG hok c7 c8 c9 c10 c11 c12 c13 c14 c15
      by_cases t1 : (-128 : Int) ≤ rf <;> by_cases t2 : rf ≤ 127 <;> first | (exfalso; omega) | skip
      all_goals
        cases p1
        · go_wp2_with (go_at_call 19; refine (HB.out _).mono ?_; rintro e u1 ⟨rfl, x1⟩)
          go_ret
          exact ⟨by rw [e1.out]; rfl, HX.out.trans (hx.out.trans x1)⟩
        · cases p2
          · go_wp2_with (first | (go_at_call_of 19 (Value.agg #[.int .i64 b0, .int .i64 b1, .int .i64 b2]); refine (HB.out _).mono ?_; rintro e u1 ⟨rfl, x1⟩; obtain ⟨d0, d1, d2, d3, d4, d5, d6, d7, d8, d9, d10, d11, d12, d13, d14, d15⟩ := (FB.out.ext (hx.out.trans x1)).k16) | (go_at_call_of 19 (Value.agg #[.int .i64 h0, .int .i64 h1, .int .i64 h2]); refine (HH.out _).mono ?_; rintro e u2 ⟨rfl, x2⟩))
            go_ret
            exact ⟨by rw [e1.out]; rfl, HX.out.trans (hx.out.trans (x1.trans x2))⟩
          · go_wp2_with (first | (go_at_call_of 19 (Value.agg #[.int .i64 b0, .int .i64 b1, .int .i64 b2]); refine (HB.out _).mono ?_; rintro e u1 ⟨rfl, x1⟩; obtain ⟨d0, d1, d2, d3, d4, d5, d6, d7, d8, d9, d10, d11, d12, d13, d14, d15⟩ := (FB.out.ext (hx.out.trans x1)).k16) | (go_at_call_of 19 (Value.agg #[.int .i64 h0, .int .i64 h1, .int .i64 h2]); refine (HH.out _).mono ?_; rintro e u2 ⟨rfl, x2⟩; obtain ⟨f0, f1, f2, f3, f4, f5, f6, f7, f8, f9, f10, f11, f12, f13, f14, f15⟩ := (FB.out.ext (hx.out.trans (x1.trans x2))).k16))
            go_ret
            exact ⟨by rw [e1.out]; simp [t1, t2], HX.out.trans (hx.out.trans (x1.trans x2))⟩

end Go.Proofs.Ytnilhamcojjloaa
