/- A variable of any number of cells. fuse: numbersOf, isOrientation, Check, Fresh. -/
import Derived.Test.YtmbdcgijjpcppaaGreatMg0
import Derived.Deep.MidRow
import Derived.Test.YtmbdcgijjpcppaaGreatQ1m
namespace Go.Proofs.YtmbdcgijjpcppaaGreat
open Go.RowKit

/-- the cells of a variable, which may be written -/
def HV (w : World) (b : Nat) (vs : List Value) : Prop :=
  b < w.heap.size ∧ ∀ j v, vs[j]? = some v → w.cell? ⟨b, j, none⟩ = some v ∧ w.frozen? ⟨b, j, none⟩ = false
theorem HV.ext {w w' : World} {b : Nat} {vs : List Value} (h : HV w b vs) (hx : Ext w w') : HV w' b vs := by
  obtain ⟨hc, hf, hs⟩ := hx.lay
  refine ⟨by have := h.1; omega, fun j v hv => ?_⟩
  obtain ⟨h1, h2⟩ := h.2 j v hv
  exact ⟨(hc _ _ h.1).trans h1, (hf _ _ h.1).trans h2⟩
theorem hv_at {w : World} {b : Nat} {vs : List Value} {T : TypeId} (h : w.heap.size = b) : HV (w.alloc (.cells vs.toArray T)) b vs := by
  subst h
  refine ⟨by simp, fun j v hv => ⟨?_, ?_⟩⟩
  · rw [World.cell?_alloc_new]
    simpa using hv
  · simp [go_sem]
theorem HV.alloc {w : World} {b : Nat} {vs : List Value} (h : HV w b vs) (o : Obj) : HV (w.alloc o) b vs := h.ext ((Ext.refl _).alloc o)
theorem HV.drew {w : World} {b : Nat} {vs : List Value} (h : HV w b vs) : HV w.drew b vs := h.ext (Ext.refl _).drew
theorem HV.far {w : World} {b g o : Nat} {vs : List Value} {y : Value} (h : HV w b vs) (hb : b ≠ g) : HV (w.setCell ⟨g, o, none⟩ y) b vs := by
  refine ⟨by simpa using h.1, fun j v hv => ?_⟩
  obtain ⟨h1, h2⟩ := h.2 j v hv
  refine ⟨?_, by simpa [go_sem] using h2⟩
  rw [World.cell?_setCell_other _ _ _ _ (by intro e; have := congrArg Addr.block e; dsimp only at this; omega)]
  exact h1
theorem HV.set {w : World} {b : Nat} {vs : List Value} (h : HV w b vs) (j : Nat) (v : Value) : HV (w.setCell ⟨b, j, none⟩ v) b (vs.set j v) := by
  refine ⟨by simpa using h.1, fun i u hu => ?_⟩
  by_cases e : i = j
  · subst e
    rw [List.getElem?_set] at hu
    simp only [if_true] at hu
    by_cases hl : i < vs.length
    · rw [if_pos hl] at hu
      obtain ⟨h1, h2⟩ := h.2 i vs[i] (List.getElem?_eq_getElem hl)
      cases hu
      exact ⟨World.cell?_setCell_same _ _ _ h1, by simpa [go_sem] using h2⟩
    · rw [if_neg hl] at hu
      cases hu
  · rw [List.getElem?_set, if_neg (fun h => e h.symm)] at hu
    obtain ⟨h1, h2⟩ := h.2 i u hu
    refine ⟨?_, by simpa [go_sem] using h2⟩
    rw [World.cell?_setCell_other _ _ _ _ (by intro x; have := congrArg Addr.off x; dsimp only at this; omega)]
    exact h1
/-- cell j of it -/
theorem HV.c {w : World} {b : Nat} {vs : List Value} (h : HV w b vs) (j : Nat) {v : Value} (hv : vs[j]? = some v) : w.cell? ⟨b, j, none⟩ = some v := (h.2 j v hv).1
theorem HV.f {w : World} {b : Nat} {vs : List Value} (h : HV w b vs) (j : Nat) {v : Value} (hv : vs[j]? = some v) : w.frozen? ⟨b, j, none⟩ = false := (h.2 j v hv).2
/-- its cells from o on -/
theorem HV.rng {w : World} {b : Nat} {vs : List Value} (h : HV w b vs) (o : Nat) : w.rangeAt b o (vs.drop o) := fun j v hv => by
  rw [List.getElem?_drop] at hv
  exact h.c (o + j) hv
theorem HV.cells1 {w : World} {b : Nat} {v : Value} (h : HV w b [v]) : w.cell? ⟨b, 0, none⟩ = some v ∧ w.frozen? ⟨b, 0, none⟩ = false := h.2 0 _ rfl
theorem HV.k3 {w : World} {b : Nat} {v0 v1 v2 : Value} (h : HV w b [v0, v1, v2]) : w.cell? ⟨b, 0, none⟩ = some v0 ∧ w.cell? ⟨b, 1, none⟩ = some v1 ∧ w.cell? ⟨b, 2, none⟩ = some v2 :=
  ⟨h.c 0 rfl, h.c 1 rfl, h.c 2 rfl⟩
theorem HV.z3 {w : World} {b : Nat} {v0 v1 v2 : Value} (h : HV w b [v0, v1, v2]) : w.frozen? ⟨b, 0, none⟩ = false ∧ w.frozen? ⟨b, 1, none⟩ = false ∧ w.frozen? ⟨b, 2, none⟩ = false :=
  ⟨h.f 0 rfl, h.f 1 rfl, h.f 2 rfl⟩
theorem HV.k4 {w : World} {b : Nat} {v0 v1 v2 v3 : Value} (h : HV w b [v0, v1, v2, v3]) : w.cell? ⟨b, 0, none⟩ = some v0 ∧ w.cell? ⟨b, 1, none⟩ = some v1 ∧ w.cell? ⟨b, 2, none⟩ = some v2 ∧ w.cell? ⟨b, 3, none⟩ = some v3 :=
  ⟨h.c 0 rfl, h.c 1 rfl, h.c 2 rfl, h.c 3 rfl⟩
theorem HV.z4 {w : World} {b : Nat} {v0 v1 v2 v3 : Value} (h : HV w b [v0, v1, v2, v3]) : w.frozen? ⟨b, 0, none⟩ = false ∧ w.frozen? ⟨b, 1, none⟩ = false ∧ w.frozen? ⟨b, 2, none⟩ = false ∧ w.frozen? ⟨b, 3, none⟩ = false :=
  ⟨h.f 0 rfl, h.f 1 rfl, h.f 2 rfl, h.f 3 rfl⟩
theorem HV.k9 {w : World} {b : Nat} {v0 v1 v2 v3 v4 v5 v6 v7 v8 : Value} (h : HV w b [v0, v1, v2, v3, v4, v5, v6, v7, v8]) : w.cell? ⟨b, 0, none⟩ = some v0 ∧ w.cell? ⟨b, 1, none⟩ = some v1 ∧ w.cell? ⟨b, 2, none⟩ = some v2 ∧ w.cell? ⟨b, 3, none⟩ = some v3 ∧ w.cell? ⟨b, 4, none⟩ = some v4 ∧ w.cell? ⟨b, 5, none⟩ = some v5 ∧ w.cell? ⟨b, 6, none⟩ = some v6 ∧ w.cell? ⟨b, 7, none⟩ = some v7 ∧ w.cell? ⟨b, 8, none⟩ = some v8 :=
  ⟨h.c 0 rfl, h.c 1 rfl, h.c 2 rfl, h.c 3 rfl, h.c 4 rfl, h.c 5 rfl, h.c 6 rfl, h.c 7 rfl, h.c 8 rfl⟩
theorem HV.z9 {w : World} {b : Nat} {v0 v1 v2 v3 v4 v5 v6 v7 v8 : Value} (h : HV w b [v0, v1, v2, v3, v4, v5, v6, v7, v8]) : w.frozen? ⟨b, 0, none⟩ = false ∧ w.frozen? ⟨b, 1, none⟩ = false ∧ w.frozen? ⟨b, 2, none⟩ = false ∧ w.frozen? ⟨b, 3, none⟩ = false ∧ w.frozen? ⟨b, 4, none⟩ = false ∧ w.frozen? ⟨b, 5, none⟩ = false ∧ w.frozen? ⟨b, 6, none⟩ = false ∧ w.frozen? ⟨b, 7, none⟩ = false ∧ w.frozen? ⟨b, 8, none⟩ = false :=
  ⟨h.f 0 rfl, h.f 1 rfl, h.f 2 rfl, h.f 3 rfl, h.f 4 rfl, h.f 5 rfl, h.f 6 rfl, h.f 7 rfl, h.f 8 rfl⟩
theorem HV.k16 {w : World} {b : Nat} {v0 v1 v2 v3 v4 v5 v6 v7 v8 v9 v10 v11 v12 v13 v14 v15 : Value} (h : HV w b [v0, v1, v2, v3, v4, v5, v6, v7, v8, v9, v10, v11, v12, v13, v14, v15]) : w.cell? ⟨b, 0, none⟩ = some v0 ∧ w.cell? ⟨b, 1, none⟩ = some v1 ∧ w.cell? ⟨b, 2, none⟩ = some v2 ∧ w.cell? ⟨b, 3, none⟩ = some v3 ∧ w.cell? ⟨b, 4, none⟩ = some v4 ∧ w.cell? ⟨b, 5, none⟩ = some v5 ∧ w.cell? ⟨b, 6, none⟩ = some v6 ∧ w.cell? ⟨b, 7, none⟩ = some v7 ∧ w.cell? ⟨b, 8, none⟩ = some v8 ∧ w.cell? ⟨b, 9, none⟩ = some v9 ∧ w.cell? ⟨b, 10, none⟩ = some v10 ∧ w.cell? ⟨b, 11, none⟩ = some v11 ∧ w.cell? ⟨b, 12, none⟩ = some v12 ∧ w.cell? ⟨b, 13, none⟩ = some v13 ∧ w.cell? ⟨b, 14, none⟩ = some v14 ∧ w.cell? ⟨b, 15, none⟩ = some v15 :=
  ⟨h.c 0 rfl, h.c 1 rfl, h.c 2 rfl, h.c 3 rfl, h.c 4 rfl, h.c 5 rfl, h.c 6 rfl, h.c 7 rfl, h.c 8 rfl, h.c 9 rfl, h.c 10 rfl, h.c 11 rfl, h.c 12 rfl, h.c 13 rfl, h.c 14 rfl, h.c 15 rfl⟩
theorem HV.z16 {w : World} {b : Nat} {v0 v1 v2 v3 v4 v5 v6 v7 v8 v9 v10 v11 v12 v13 v14 v15 : Value} (h : HV w b [v0, v1, v2, v3, v4, v5, v6, v7, v8, v9, v10, v11, v12, v13, v14, v15]) : w.frozen? ⟨b, 0, none⟩ = false ∧ w.frozen? ⟨b, 1, none⟩ = false ∧ w.frozen? ⟨b, 2, none⟩ = false ∧ w.frozen? ⟨b, 3, none⟩ = false ∧ w.frozen? ⟨b, 4, none⟩ = false ∧ w.frozen? ⟨b, 5, none⟩ = false ∧ w.frozen? ⟨b, 6, none⟩ = false ∧ w.frozen? ⟨b, 7, none⟩ = false ∧ w.frozen? ⟨b, 8, none⟩ = false ∧ w.frozen? ⟨b, 9, none⟩ = false ∧ w.frozen? ⟨b, 10, none⟩ = false ∧ w.frozen? ⟨b, 11, none⟩ = false ∧ w.frozen? ⟨b, 12, none⟩ = false ∧ w.frozen? ⟨b, 13, none⟩ = false ∧ w.frozen? ⟨b, 14, none⟩ = false ∧ w.frozen? ⟨b, 15, none⟩ = false :=
  ⟨h.f 0 rfl, h.f 1 rfl, h.f 2 rfl, h.f 3 rfl, h.f 4 rfl, h.f 5 rfl, h.f 6 rfl, h.f 7 rfl, h.f 8 rfl, h.f 9 rfl, h.f 10 rfl, h.f 11 rfl, h.f 12 rfl, h.f 13 rfl, h.f 14 rfl, h.f 15 rfl⟩
theorem HV.k20 {w : World} {b : Nat} {v0 v1 v2 v3 v4 v5 v6 v7 v8 v9 v10 v11 v12 v13 v14 v15 v16 v17 v18 v19 : Value} (h : HV w b [v0, v1, v2, v3, v4, v5, v6, v7, v8, v9, v10, v11, v12, v13, v14, v15, v16, v17, v18, v19]) : w.cell? ⟨b, 0, none⟩ = some v0 ∧ w.cell? ⟨b, 1, none⟩ = some v1 ∧ w.cell? ⟨b, 2, none⟩ = some v2 ∧ w.cell? ⟨b, 3, none⟩ = some v3 ∧ w.cell? ⟨b, 4, none⟩ = some v4 ∧ w.cell? ⟨b, 5, none⟩ = some v5 ∧ w.cell? ⟨b, 6, none⟩ = some v6 ∧ w.cell? ⟨b, 7, none⟩ = some v7 ∧ w.cell? ⟨b, 8, none⟩ = some v8 ∧ w.cell? ⟨b, 9, none⟩ = some v9 ∧ w.cell? ⟨b, 10, none⟩ = some v10 ∧ w.cell? ⟨b, 11, none⟩ = some v11 ∧ w.cell? ⟨b, 12, none⟩ = some v12 ∧ w.cell? ⟨b, 13, none⟩ = some v13 ∧ w.cell? ⟨b, 14, none⟩ = some v14 ∧ w.cell? ⟨b, 15, none⟩ = some v15 ∧ w.cell? ⟨b, 16, none⟩ = some v16 ∧ w.cell? ⟨b, 17, none⟩ = some v17 ∧ w.cell? ⟨b, 18, none⟩ = some v18 ∧ w.cell? ⟨b, 19, none⟩ = some v19 :=
  ⟨h.c 0 rfl, h.c 1 rfl, h.c 2 rfl, h.c 3 rfl, h.c 4 rfl, h.c 5 rfl, h.c 6 rfl, h.c 7 rfl, h.c 8 rfl, h.c 9 rfl, h.c 10 rfl, h.c 11 rfl, h.c 12 rfl, h.c 13 rfl, h.c 14 rfl, h.c 15 rfl, h.c 16 rfl, h.c 17 rfl, h.c 18 rfl, h.c 19 rfl⟩
theorem HV.z20 {w : World} {b : Nat} {v0 v1 v2 v3 v4 v5 v6 v7 v8 v9 v10 v11 v12 v13 v14 v15 v16 v17 v18 v19 : Value} (h : HV w b [v0, v1, v2, v3, v4, v5, v6, v7, v8, v9, v10, v11, v12, v13, v14, v15, v16, v17, v18, v19]) : w.frozen? ⟨b, 0, none⟩ = false ∧ w.frozen? ⟨b, 1, none⟩ = false ∧ w.frozen? ⟨b, 2, none⟩ = false ∧ w.frozen? ⟨b, 3, none⟩ = false ∧ w.frozen? ⟨b, 4, none⟩ = false ∧ w.frozen? ⟨b, 5, none⟩ = false ∧ w.frozen? ⟨b, 6, none⟩ = false ∧ w.frozen? ⟨b, 7, none⟩ = false ∧ w.frozen? ⟨b, 8, none⟩ = false ∧ w.frozen? ⟨b, 9, none⟩ = false ∧ w.frozen? ⟨b, 10, none⟩ = false ∧ w.frozen? ⟨b, 11, none⟩ = false ∧ w.frozen? ⟨b, 12, none⟩ = false ∧ w.frozen? ⟨b, 13, none⟩ = false ∧ w.frozen? ⟨b, 14, none⟩ = false ∧ w.frozen? ⟨b, 15, none⟩ = false ∧ w.frozen? ⟨b, 16, none⟩ = false ∧ w.frozen? ⟨b, 17, none⟩ = false ∧ w.frozen? ⟨b, 18, none⟩ = false ∧ w.frozen? ⟨b, 19, none⟩ = false :=
  ⟨h.f 0 rfl, h.f 1 rfl, h.f 2 rfl, h.f 3 rfl, h.f 4 rfl, h.f 5 rfl, h.f 6 rfl, h.f 7 rfl, h.f 8 rfl, h.f 9 rfl, h.f 10 rfl, h.f 11 rfl, h.f 12 rfl, h.f 13 rfl, h.f 14 rfl, h.f 15 rfl, h.f 16 rfl, h.f 17 rfl, h.f 18 rfl, h.f 19 rfl⟩
end Go.Proofs.YtmbdcgijjpcppaaGreat

namespace Go.Proofs.YtmbdcgijjpcppaaGreat
open Go.RowKit Go.Shelf
/-- no longer than an orientation may be -/
def inO (v : Int) : Bool := decide (-1073741828 ≤ v) && decide (v ≤ 1073741828)
theorem inO_iff {v : Int} : inO v = true ↔ -1073741828 ≤ v ∧ v ≤ 1073741828 := by unfold inO; simp
/-- an orientation -/
def okO (a b c d : Int) : Bool := inO a && (inO b && (inO c && (inO d && (decide (1152921496016912400 ≤ a * a + b * b + c * c + d * d) && decide (a * a + b * b + c * c + d * d ≤ 1152921513196781584)))))
theorem okO_iff {a b c d : Int} : okO a b c d = true ↔ (-1073741828 ≤ a ∧ a ≤ 1073741828) ∧ (-1073741828 ≤ b ∧ b ≤ 1073741828) ∧ (-1073741828 ≤ c ∧ c ≤ 1073741828) ∧ (-1073741828 ≤ d ∧ d ≤ 1073741828) ∧ 1152921496016912400 ≤ a * a + b * b + c * c + d * d ∧ a * a + b * b + c * c + d * d ≤ 1152921513196781584 := by
  unfold okO; simp only [Bool.and_eq_true, inO_iff, decide_eq_true_eq]
theorem inO_sq {v : Int} (h : -1073741828 ≤ v ∧ v ≤ 1073741828) : 0 ≤ v * v ∧ v * v ≤ 1152921513196781584 := by
  have e : v * v = ((v.natAbs * v.natAbs : Nat) : Int) := Int.natAbs_mul_self.symm
  have m : v.natAbs * v.natAbs ≤ 1073741828 * 1073741828 := Nat.mul_le_mul (by omega) (by omega)
  omega
set_option maxHeartbeats 400000 in
theorem numbersOf_any (a b c d : Int) (w : World) : Calls Tryz.prog 91 #[.agg #[.int .i64 a, .int .i64 b, .int .i64 c, .int .i64 d]] w fun e w' => e = .returned (.agg #[.int .i64 a, .int .i64 b, .int .i64 c, .int .i64 d]) ∧ Ext w w' := by
  go_enter Tryz.func91, Tryz.ntmps91
  go_wp2_with fail
  exact bodyPost_ret (v := .agg #[.int .i64 a, .int .i64 b, .int .i64 c, .int .i64 d]) (by simp [results, Tryz.results91, go_sem]) rfl ⟨rfl, by repeat (first | with_reducible assumption | with_reducible exact Ext.refl _ | with_reducible refine Ext.drew ?_ | with_reducible refine Ext.drewN ?_ _ | with_reducible refine Ext.alloc ?_ _ | with_reducible refine Ext.set ?_ (by first | exact Nat.le_refl _ | (dsimp only; omega) | (simp; done)) _)⟩
theorem ix4 (T : TypeId) (hT : T = 124) (x y z u : Int) : (∀ w : World, (Instr.index T (.agg #[.int .i64 x, .int .i64 y, .int .i64 z, .int .i64 u]) (.int .i64 0)).run Tryz.prog w = .ok (.int .i64 x) w) ∧ (∀ w : World, (Instr.index T (.agg #[.int .i64 x, .int .i64 y, .int .i64 z, .int .i64 u]) (.int .i64 1)).run Tryz.prog w = .ok (.int .i64 y) w) ∧ (∀ w : World, (Instr.index T (.agg #[.int .i64 x, .int .i64 y, .int .i64 z, .int .i64 u]) (.int .i64 2)).run Tryz.prog w = .ok (.int .i64 z) w) ∧ (∀ w : World, (Instr.index T (.agg #[.int .i64 x, .int .i64 y, .int .i64 z, .int .i64 u]) (.int .i64 3)).run Tryz.prog w = .ok (.int .i64 u) w) := by
  subst hT
  exact ⟨fun _ => by kernel_rfl, fun _ => by kernel_rfl, fun _ => by kernel_rfl, fun _ => by kernel_rfl⟩
set_option maxRecDepth 20000 in
set_option maxHeartbeats 4000000 in
theorem isor_below0 (a b c d : Int) (w : World) (hb : a < -1073741828) : Calls Tryz.prog 51 #[.agg #[.int .i64 a, .int .i64 b, .int .i64 c, .int .i64 d]] w fun e w' => e = .returned (.bool false) ∧ Ext w w' := by
  have HN : Hid (∀ w', Calls Tryz.prog 91 #[.agg #[.int .i64 a, .int .i64 b, .int .i64 c, .int .i64 d]] w' fun e w'' => e = .returned (.agg #[.int .i64 a, .int .i64 b, .int .i64 c, .int .i64 d]) ∧ Ext w' w'') := numbersOf_any a b c d
  obtain ⟨i0, i1, i2, i3⟩ := ix4 124 rfl a b c d
  go_enter Tryz.func51, Tryz.ntmps51
  go_wp2_with (go_at_call 91; refine (HN.out _).mono ?_; rintro e w1 ⟨rfl, x1⟩)
  have X1 : Ext w w1 := Ext.trans ((Ext.refl w).alloc _) x1
  clear x1
  refine wp_loop_rounds 6 ?_
  rw [rounds_succ]
  go_wp2_with fail
  go_ret
  exact ⟨rfl, X1⟩
set_option maxRecDepth 20000 in
set_option maxHeartbeats 4000000 in
theorem isor_above0 (a b c d : Int) (w : World) (hb : 1073741828 < a) : Calls Tryz.prog 51 #[.agg #[.int .i64 a, .int .i64 b, .int .i64 c, .int .i64 d]] w fun e w' => e = .returned (.bool false) ∧ Ext w w' := by
  have HN : Hid (∀ w', Calls Tryz.prog 91 #[.agg #[.int .i64 a, .int .i64 b, .int .i64 c, .int .i64 d]] w' fun e w'' => e = .returned (.agg #[.int .i64 a, .int .i64 b, .int .i64 c, .int .i64 d]) ∧ Ext w' w'') := numbersOf_any a b c d
  obtain ⟨i0, i1, i2, i3⟩ := ix4 124 rfl a b c d
  go_enter Tryz.func51, Tryz.ntmps51
  go_wp2_with (go_at_call 91; refine (HN.out _).mono ?_; rintro e w1 ⟨rfl, x1⟩)
  have X1 : Ext w w1 := Ext.trans ((Ext.refl w).alloc _) x1
  clear x1
  refine wp_loop_rounds 6 ?_
  rw [rounds_succ]
  go_wp2_with fail
  go_ret
  exact ⟨rfl, X1⟩
set_option maxRecDepth 20000 in
set_option maxHeartbeats 4000000 in
theorem isor_below1 (a b c d A : Int) (w : World) (h0 : -1073741828 ≤ a ∧ a ≤ 1073741828) (hb : b < -1073741828) (e0 : a * a = A) : Calls Tryz.prog 51 #[.agg #[.int .i64 a, .int .i64 b, .int .i64 c, .int .i64 d]] w fun e w' => e = .returned (.bool false) ∧ Ext w w' := by
  have HN : Hid (∀ w', Calls Tryz.prog 91 #[.agg #[.int .i64 a, .int .i64 b, .int .i64 c, .int .i64 d]] w' fun e w'' => e = .returned (.agg #[.int .i64 a, .int .i64 b, .int .i64 c, .int .i64 d]) ∧ Ext w' w'') := numbersOf_any a b c d
  obtain ⟨i0, i1, i2, i3⟩ := ix4 124 rfl a b c d
  obtain ⟨p0, q0⟩ := e0 ▸ inO_sq h0
  obtain ⟨l0, m0⟩ := h0
  go_enter Tryz.func51, Tryz.ntmps51
  go_wp2_with (go_at_call 91; refine (HN.out _).mono ?_; rintro e w1 ⟨rfl, x1⟩)
  have X1 : Ext w w1 := Ext.trans ((Ext.refl w).alloc _) x1
  clear x1
  refine wp_loop_rounds 6 ?_
  rw [rounds_succ]
  go_wp2_with fail
  rw [rounds_succ]
  go_wp2_with fail
  go_ret
  exact ⟨rfl, X1⟩
set_option maxRecDepth 20000 in
set_option maxHeartbeats 4000000 in
theorem isor_above1 (a b c d A : Int) (w : World) (h0 : -1073741828 ≤ a ∧ a ≤ 1073741828) (hb : 1073741828 < b) (e0 : a * a = A) : Calls Tryz.prog 51 #[.agg #[.int .i64 a, .int .i64 b, .int .i64 c, .int .i64 d]] w fun e w' => e = .returned (.bool false) ∧ Ext w w' := by
  have HN : Hid (∀ w', Calls Tryz.prog 91 #[.agg #[.int .i64 a, .int .i64 b, .int .i64 c, .int .i64 d]] w' fun e w'' => e = .returned (.agg #[.int .i64 a, .int .i64 b, .int .i64 c, .int .i64 d]) ∧ Ext w' w'') := numbersOf_any a b c d
  obtain ⟨i0, i1, i2, i3⟩ := ix4 124 rfl a b c d
  obtain ⟨p0, q0⟩ := e0 ▸ inO_sq h0
  obtain ⟨l0, m0⟩ := h0
  go_enter Tryz.func51, Tryz.ntmps51
  go_wp2_with (go_at_call 91; refine (HN.out _).mono ?_; rintro e w1 ⟨rfl, x1⟩)
  have X1 : Ext w w1 := Ext.trans ((Ext.refl w).alloc _) x1
  clear x1
  refine wp_loop_rounds 6 ?_
  rw [rounds_succ]
  go_wp2_with fail
  rw [rounds_succ]
  go_wp2_with fail
  go_ret
  exact ⟨rfl, X1⟩
set_option maxRecDepth 20000 in
set_option maxHeartbeats 4000000 in
theorem isor_below2 (a b c d A B : Int) (w : World) (h0 : -1073741828 ≤ a ∧ a ≤ 1073741828) (h1 : -1073741828 ≤ b ∧ b ≤ 1073741828) (hb : c < -1073741828) (e0 : a * a = A) (e1 : b * b = B) : Calls Tryz.prog 51 #[.agg #[.int .i64 a, .int .i64 b, .int .i64 c, .int .i64 d]] w fun e w' => e = .returned (.bool false) ∧ Ext w w' := by
  have HN : Hid (∀ w', Calls Tryz.prog 91 #[.agg #[.int .i64 a, .int .i64 b, .int .i64 c, .int .i64 d]] w' fun e w'' => e = .returned (.agg #[.int .i64 a, .int .i64 b, .int .i64 c, .int .i64 d]) ∧ Ext w' w'') := numbersOf_any a b c d
  obtain ⟨i0, i1, i2, i3⟩ := ix4 124 rfl a b c d
  obtain ⟨p0, q0⟩ := e0 ▸ inO_sq h0
  obtain ⟨l0, m0⟩ := h0
  obtain ⟨p1, q1⟩ := e1 ▸ inO_sq h1
  obtain ⟨l1, m1⟩ := h1
  go_enter Tryz.func51, Tryz.ntmps51
  go_wp2_with (go_at_call 91; refine (HN.out _).mono ?_; rintro e w1 ⟨rfl, x1⟩)
  have X1 : Ext w w1 := Ext.trans ((Ext.refl w).alloc _) x1
  clear x1
  refine wp_loop_rounds 6 ?_
  rw [rounds_succ]
  go_wp2_with fail
  rw [rounds_succ]
  go_wp2_with fail
  rw [rounds_succ]
  go_wp2_with fail
  go_ret
  exact ⟨rfl, X1⟩
set_option maxRecDepth 20000 in
set_option maxHeartbeats 4000000 in
theorem isor_above2 (a b c d A B : Int) (w : World) (h0 : -1073741828 ≤ a ∧ a ≤ 1073741828) (h1 : -1073741828 ≤ b ∧ b ≤ 1073741828) (hb : 1073741828 < c) (e0 : a * a = A) (e1 : b * b = B) : Calls Tryz.prog 51 #[.agg #[.int .i64 a, .int .i64 b, .int .i64 c, .int .i64 d]] w fun e w' => e = .returned (.bool false) ∧ Ext w w' := by
  have HN : Hid (∀ w', Calls Tryz.prog 91 #[.agg #[.int .i64 a, .int .i64 b, .int .i64 c, .int .i64 d]] w' fun e w'' => e = .returned (.agg #[.int .i64 a, .int .i64 b, .int .i64 c, .int .i64 d]) ∧ Ext w' w'') := numbersOf_any a b c d
  obtain ⟨i0, i1, i2, i3⟩ := ix4 124 rfl a b c d
  obtain ⟨p0, q0⟩ := e0 ▸ inO_sq h0
  obtain ⟨l0, m0⟩ := h0
  obtain ⟨p1, q1⟩ := e1 ▸ inO_sq h1
  obtain ⟨l1, m1⟩ := h1
  go_enter Tryz.func51, Tryz.ntmps51
  go_wp2_with (go_at_call 91; refine (HN.out _).mono ?_; rintro e w1 ⟨rfl, x1⟩)
  have X1 : Ext w w1 := Ext.trans ((Ext.refl w).alloc _) x1
  clear x1
  refine wp_loop_rounds 6 ?_
  rw [rounds_succ]
  go_wp2_with fail
  rw [rounds_succ]
  go_wp2_with fail
  rw [rounds_succ]
  go_wp2_with fail
  go_ret
  exact ⟨rfl, X1⟩
set_option maxRecDepth 20000 in
set_option maxHeartbeats 4000000 in
theorem isor_below3 (a b c d A B C : Int) (w : World) (h0 : -1073741828 ≤ a ∧ a ≤ 1073741828) (h1 : -1073741828 ≤ b ∧ b ≤ 1073741828) (h2 : -1073741828 ≤ c ∧ c ≤ 1073741828) (hb : d < -1073741828) (e0 : a * a = A) (e1 : b * b = B) (e2 : c * c = C) : Calls Tryz.prog 51 #[.agg #[.int .i64 a, .int .i64 b, .int .i64 c, .int .i64 d]] w fun e w' => e = .returned (.bool false) ∧ Ext w w' := by
  have HN : Hid (∀ w', Calls Tryz.prog 91 #[.agg #[.int .i64 a, .int .i64 b, .int .i64 c, .int .i64 d]] w' fun e w'' => e = .returned (.agg #[.int .i64 a, .int .i64 b, .int .i64 c, .int .i64 d]) ∧ Ext w' w'') := numbersOf_any a b c d
  obtain ⟨i0, i1, i2, i3⟩ := ix4 124 rfl a b c d
  obtain ⟨p0, q0⟩ := e0 ▸ inO_sq h0
  obtain ⟨l0, m0⟩ := h0
  obtain ⟨p1, q1⟩ := e1 ▸ inO_sq h1
  obtain ⟨l1, m1⟩ := h1
  obtain ⟨p2, q2⟩ := e2 ▸ inO_sq h2
  obtain ⟨l2, m2⟩ := h2
  go_enter Tryz.func51, Tryz.ntmps51
  go_wp2_with (go_at_call 91; refine (HN.out _).mono ?_; rintro e w1 ⟨rfl, x1⟩)
  have X1 : Ext w w1 := Ext.trans ((Ext.refl w).alloc _) x1
  clear x1
  refine wp_loop_rounds 6 ?_
  rw [rounds_succ]
  go_wp2_with fail
  rw [rounds_succ]
  go_wp2_with fail
  rw [rounds_succ]
  go_wp2_with fail
  rw [rounds_succ]
  go_wp2_with fail
  go_ret
  exact ⟨rfl, X1⟩
set_option maxRecDepth 20000 in
set_option maxHeartbeats 4000000 in
theorem isor_above3 (a b c d A B C : Int) (w : World) (h0 : -1073741828 ≤ a ∧ a ≤ 1073741828) (h1 : -1073741828 ≤ b ∧ b ≤ 1073741828) (h2 : -1073741828 ≤ c ∧ c ≤ 1073741828) (hb : 1073741828 < d) (e0 : a * a = A) (e1 : b * b = B) (e2 : c * c = C) : Calls Tryz.prog 51 #[.agg #[.int .i64 a, .int .i64 b, .int .i64 c, .int .i64 d]] w fun e w' => e = .returned (.bool false) ∧ Ext w w' := by
  have HN : Hid (∀ w', Calls Tryz.prog 91 #[.agg #[.int .i64 a, .int .i64 b, .int .i64 c, .int .i64 d]] w' fun e w'' => e = .returned (.agg #[.int .i64 a, .int .i64 b, .int .i64 c, .int .i64 d]) ∧ Ext w' w'') := numbersOf_any a b c d
  obtain ⟨i0, i1, i2, i3⟩ := ix4 124 rfl a b c d
  obtain ⟨p0, q0⟩ := e0 ▸ inO_sq h0
  obtain ⟨l0, m0⟩ := h0
  obtain ⟨p1, q1⟩ := e1 ▸ inO_sq h1
  obtain ⟨l1, m1⟩ := h1
  obtain ⟨p2, q2⟩ := e2 ▸ inO_sq h2
  obtain ⟨l2, m2⟩ := h2
  go_enter Tryz.func51, Tryz.ntmps51
  go_wp2_with (go_at_call 91; refine (HN.out _).mono ?_; rintro e w1 ⟨rfl, x1⟩)
  have X1 : Ext w w1 := Ext.trans ((Ext.refl w).alloc _) x1
  clear x1
  refine wp_loop_rounds 6 ?_
  rw [rounds_succ]
  go_wp2_with fail
  rw [rounds_succ]
  go_wp2_with fail
  rw [rounds_succ]
  go_wp2_with fail
  rw [rounds_succ]
  go_wp2_with fail
  go_ret
  exact ⟨rfl, X1⟩
set_option maxRecDepth 20000 in
set_option maxHeartbeats 4000000 in
theorem isor_lo (a b c d A B C D : Int) (w : World) (h0 : -1073741828 ≤ a ∧ a ≤ 1073741828) (h1 : -1073741828 ≤ b ∧ b ≤ 1073741828) (h2 : -1073741828 ≤ c ∧ c ≤ 1073741828) (h3 : -1073741828 ≤ d ∧ d ≤ 1073741828) (hs : A + B + C + D < 1152921496016912400) (e0 : a * a = A) (e1 : b * b = B) (e2 : c * c = C) (e3 : d * d = D) : Calls Tryz.prog 51 #[.agg #[.int .i64 a, .int .i64 b, .int .i64 c, .int .i64 d]] w fun e w' => e = .returned (.bool false) ∧ Ext w w' := by
  have HN : Hid (∀ w', Calls Tryz.prog 91 #[.agg #[.int .i64 a, .int .i64 b, .int .i64 c, .int .i64 d]] w' fun e w'' => e = .returned (.agg #[.int .i64 a, .int .i64 b, .int .i64 c, .int .i64 d]) ∧ Ext w' w'') := numbersOf_any a b c d
  obtain ⟨i0, i1, i2, i3⟩ := ix4 124 rfl a b c d
  obtain ⟨p0, q0⟩ := e0 ▸ inO_sq h0
  obtain ⟨l0, m0⟩ := h0
  obtain ⟨p1, q1⟩ := e1 ▸ inO_sq h1
  obtain ⟨l1, m1⟩ := h1
  obtain ⟨p2, q2⟩ := e2 ▸ inO_sq h2
  obtain ⟨l2, m2⟩ := h2
  obtain ⟨p3, q3⟩ := e3 ▸ inO_sq h3
  obtain ⟨l3, m3⟩ := h3
  go_enter Tryz.func51, Tryz.ntmps51
  go_wp2_with (go_at_call 91; refine (HN.out _).mono ?_; rintro e w1 ⟨rfl, x1⟩)
  have X1 : Ext w w1 := Ext.trans ((Ext.refl w).alloc _) x1
  clear x1
  refine wp_loop_rounds 6 ?_
  rw [rounds_succ]
  go_wp2_with fail
  rw [rounds_succ]
  go_wp2_with fail
  rw [rounds_succ]
  go_wp2_with fail
  rw [rounds_succ]
  go_wp2_with fail
  rw [rounds_succ]
  go_wp2_with fail
  go_ret
  exact ⟨rfl, X1⟩
set_option maxRecDepth 20000 in
set_option maxHeartbeats 4000000 in
theorem isor_hi (a b c d A B C D : Int) (w : World) (h0 : -1073741828 ≤ a ∧ a ≤ 1073741828) (h1 : -1073741828 ≤ b ∧ b ≤ 1073741828) (h2 : -1073741828 ≤ c ∧ c ≤ 1073741828) (h3 : -1073741828 ≤ d ∧ d ≤ 1073741828) (hs : 1152921513196781584 < A + B + C + D) (e0 : a * a = A) (e1 : b * b = B) (e2 : c * c = C) (e3 : d * d = D) : Calls Tryz.prog 51 #[.agg #[.int .i64 a, .int .i64 b, .int .i64 c, .int .i64 d]] w fun e w' => e = .returned (.bool false) ∧ Ext w w' := by
  have HN : Hid (∀ w', Calls Tryz.prog 91 #[.agg #[.int .i64 a, .int .i64 b, .int .i64 c, .int .i64 d]] w' fun e w'' => e = .returned (.agg #[.int .i64 a, .int .i64 b, .int .i64 c, .int .i64 d]) ∧ Ext w' w'') := numbersOf_any a b c d
  obtain ⟨i0, i1, i2, i3⟩ := ix4 124 rfl a b c d
  obtain ⟨p0, q0⟩ := e0 ▸ inO_sq h0
  obtain ⟨l0, m0⟩ := h0
  obtain ⟨p1, q1⟩ := e1 ▸ inO_sq h1
  obtain ⟨l1, m1⟩ := h1
  obtain ⟨p2, q2⟩ := e2 ▸ inO_sq h2
  obtain ⟨l2, m2⟩ := h2
  obtain ⟨p3, q3⟩ := e3 ▸ inO_sq h3
  obtain ⟨l3, m3⟩ := h3
  go_enter Tryz.func51, Tryz.ntmps51
  go_wp2_with (go_at_call 91; refine (HN.out _).mono ?_; rintro e w1 ⟨rfl, x1⟩)
  have X1 : Ext w w1 := Ext.trans ((Ext.refl w).alloc _) x1
  clear x1
  refine wp_loop_rounds 6 ?_
  rw [rounds_succ]
  go_wp2_with fail
  rw [rounds_succ]
  go_wp2_with fail
  rw [rounds_succ]
  go_wp2_with fail
  rw [rounds_succ]
  go_wp2_with fail
  rw [rounds_succ]
  go_wp2_with fail
  go_ret
  exact ⟨by simp; omega, X1⟩
set_option maxRecDepth 20000 in
set_option maxHeartbeats 4000000 in
theorem isor_ok (a b c d A B C D : Int) (w : World) (h0 : -1073741828 ≤ a ∧ a ≤ 1073741828) (h1 : -1073741828 ≤ b ∧ b ≤ 1073741828) (h2 : -1073741828 ≤ c ∧ c ≤ 1073741828) (h3 : -1073741828 ≤ d ∧ d ≤ 1073741828) (hs : 1152921496016912400 ≤ A + B + C + D) (hs2 : A + B + C + D ≤ 1152921513196781584) (e0 : a * a = A) (e1 : b * b = B) (e2 : c * c = C) (e3 : d * d = D) : Calls Tryz.prog 51 #[.agg #[.int .i64 a, .int .i64 b, .int .i64 c, .int .i64 d]] w fun e w' => e = .returned (.bool true) ∧ Ext w w' := by
  have HN : Hid (∀ w', Calls Tryz.prog 91 #[.agg #[.int .i64 a, .int .i64 b, .int .i64 c, .int .i64 d]] w' fun e w'' => e = .returned (.agg #[.int .i64 a, .int .i64 b, .int .i64 c, .int .i64 d]) ∧ Ext w' w'') := numbersOf_any a b c d
  obtain ⟨i0, i1, i2, i3⟩ := ix4 124 rfl a b c d
  obtain ⟨p0, q0⟩ := e0 ▸ inO_sq h0
  obtain ⟨l0, m0⟩ := h0
  obtain ⟨p1, q1⟩ := e1 ▸ inO_sq h1
  obtain ⟨l1, m1⟩ := h1
  obtain ⟨p2, q2⟩ := e2 ▸ inO_sq h2
  obtain ⟨l2, m2⟩ := h2
  obtain ⟨p3, q3⟩ := e3 ▸ inO_sq h3
  obtain ⟨l3, m3⟩ := h3
  go_enter Tryz.func51, Tryz.ntmps51
  go_wp2_with (go_at_call 91; refine (HN.out _).mono ?_; rintro e w1 ⟨rfl, x1⟩)
  have X1 : Ext w w1 := Ext.trans ((Ext.refl w).alloc _) x1
  clear x1
  refine wp_loop_rounds 6 ?_
  rw [rounds_succ]
  go_wp2_with fail
  rw [rounds_succ]
  go_wp2_with fail
  rw [rounds_succ]
  go_wp2_with fail
  rw [rounds_succ]
  go_wp2_with fail
  rw [rounds_succ]
  go_wp2_with fail
  go_ret
  exact ⟨rfl, X1⟩
theorem isor_any (a b c d : Int) (w : World) : Calls Tryz.prog 51 #[.agg #[.int .i64 a, .int .i64 b, .int .i64 c, .int .i64 d]] w fun e w' => e = .returned (.bool (okO a b c d)) ∧ Ext w w' := by
  by_cases g0 : a < -1073741828
  · have e : okO a b c d = false := Bool.eq_false_iff.2 (fun h => by have := okO_iff.1 h; omega)
    rw [e]; exact isor_below0 a b c d  w g0
  by_cases g0' : 1073741828 < a
  · have e : okO a b c d = false := Bool.eq_false_iff.2 (fun h => by have := okO_iff.1 h; omega)
    rw [e]; exact isor_above0 a b c d  w g0'
  have h0 : -1073741828 ≤ a ∧ a ≤ 1073741828 := ⟨by omega, by omega⟩
  by_cases g1 : b < -1073741828
  · have e : okO a b c d = false := Bool.eq_false_iff.2 (fun h => by have := okO_iff.1 h; omega)
    rw [e]; exact isor_below1 a b c d (a * a) w h0 g1 rfl
  by_cases g1' : 1073741828 < b
  · have e : okO a b c d = false := Bool.eq_false_iff.2 (fun h => by have := okO_iff.1 h; omega)
    rw [e]; exact isor_above1 a b c d (a * a) w h0 g1' rfl
  have h1 : -1073741828 ≤ b ∧ b ≤ 1073741828 := ⟨by omega, by omega⟩
  by_cases g2 : c < -1073741828
  · have e : okO a b c d = false := Bool.eq_false_iff.2 (fun h => by have := okO_iff.1 h; omega)
    rw [e]; exact isor_below2 a b c d (a * a) (b * b) w h0 h1 g2 rfl rfl
  by_cases g2' : 1073741828 < c
  · have e : okO a b c d = false := Bool.eq_false_iff.2 (fun h => by have := okO_iff.1 h; omega)
    rw [e]; exact isor_above2 a b c d (a * a) (b * b) w h0 h1 g2' rfl rfl
  have h2 : -1073741828 ≤ c ∧ c ≤ 1073741828 := ⟨by omega, by omega⟩
  by_cases g3 : d < -1073741828
  · have e : okO a b c d = false := Bool.eq_false_iff.2 (fun h => by have := okO_iff.1 h; omega)
    rw [e]; exact isor_below3 a b c d (a * a) (b * b) (c * c) w h0 h1 h2 g3 rfl rfl rfl
  by_cases g3' : 1073741828 < d
  · have e : okO a b c d = false := Bool.eq_false_iff.2 (fun h => by have := okO_iff.1 h; omega)
    rw [e]; exact isor_above3 a b c d (a * a) (b * b) (c * c) w h0 h1 h2 g3' rfl rfl rfl
  have h3 : -1073741828 ≤ d ∧ d ≤ 1073741828 := ⟨by omega, by omega⟩
  by_cases k0 : a * a + b * b + c * c + d * d < 1152921496016912400
  · have e : okO a b c d = false := Bool.eq_false_iff.2 (fun h => by have := okO_iff.1 h; omega)
    rw [e]; exact isor_lo a b c d (a * a) (b * b) (c * c) (d * d) w h0 h1 h2 h3 k0 rfl rfl rfl rfl
  by_cases k1 : 1152921513196781584 < a * a + b * b + c * c + d * d
  · have e : okO a b c d = false := Bool.eq_false_iff.2 (fun h => by have := okO_iff.1 h; omega)
    rw [e]; exact isor_hi a b c d (a * a) (b * b) (c * c) (d * d) w h0 h1 h2 h3 k1 rfl rfl rfl rfl
  have e : okO a b c d = true := okO_iff.2 ⟨h0, h1, h2, h3, by omega, by omega⟩
  rw [e]; exact isor_ok a b c d (a * a) (b * b) (c * c) (d * d) w h0 h1 h2 h3 (by omega) (by omega) rfl rfl rfl rfl
/-- what Check tells -/
def chkO (a b c d : Int) : Int := if okO a b c d then 0 else 1
set_option maxRecDepth 20000 in
set_option maxHeartbeats 4000000 in
theorem fCheck_any (a b c d : Int) (w : World) : Calls Tryz.prog 14 #[.agg #[.int .i64 a, .int .i64 b, .int .i64 c, .int .i64 d]] w fun e w' => e = .returned (.int .i64 (chkO a b c d)) ∧ Ext w w' := by
  have HN : Hid (∀ w', Calls Tryz.prog 51 #[.agg #[.int .i64 a, .int .i64 b, .int .i64 c, .int .i64 d]] w' fun e w'' => e = .returned (.bool (okO a b c d)) ∧ Ext w' w'') := isor_any a b c d
  have hr : Hid (chkO a b c d = if okO a b c d then 0 else 1) := rfl
  generalize chkO a b c d = R at *
  generalize okO a b c d = o at *
  cases o
  all_goals
    go_enter Tryz.func14, Tryz.ntmps14
    go_wp2_with (go_at_call 51; refine (HN.out _).mono ?_; rintro e w1 ⟨rfl, x1⟩)
    go_ret
    exact ⟨by rw [hr.out]; simp, Ext.trans ((Ext.refl w).alloc _) x1⟩
set_option maxHeartbeats 400000 in
theorem fresh_any (w : World) : Calls Tryz.prog 18 #[] w fun e w' => e = .returned (.agg #[.int .i64 1073741824, .int .i64 0, .int .i64 0, .int .i64 0]) ∧ Ext w w' := by
  go_enter Tryz.func18, Tryz.ntmps18
  go_wp2_with fail
  exact bodyPost_ret (v := .agg #[.int .i64 1073741824, .int .i64 0, .int .i64 0, .int .i64 0]) (by simp [results, Tryz.results18, go_sem]) rfl ⟨rfl, by repeat (first | with_reducible assumption | with_reducible exact Ext.refl _ | with_reducible refine Ext.drew ?_ | with_reducible refine Ext.drewN ?_ _ | with_reducible refine Ext.alloc ?_ _ | with_reducible refine Ext.set ?_ (by first | exact Nat.le_refl _ | (dsimp only; omega) | (simp; done)) _)⟩
end Go.Proofs.YtmbdcgijjpcppaaGreat
