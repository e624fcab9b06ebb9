/- A variable of any number of cells. The reference of layer 1: OverRoot. -/
import Derived.Test.YteimgbafclhkpaaMg0
import Derived.Deep.MidRow
import Derived.Test.YteimgbafclhkpaaRootNearQ2m
import Derived.Deep.RegionHeld3
import Derived.Deep.DeepCutAuto
namespace Go.Proofs.Yteimgbafclhkpaa
open Go.RowKit

/-- the cells of a variable, which may be written -/
def HV (w : World) (b : Nat) (vs : List Value) : Prop :=
  b < w.heap.size ∧ ∀ j v, vs[j]? = some v → w.cell? ⟨b, j, none⟩ = some v ∧ w.frozen? ⟨b, j, none⟩ = false
theorem HV.ext {w w' : World} {b : Nat} {vs : List Value} (h : HV w b vs) (hx : Ext w w') : HV w' b vs := by
  obtain ⟨hc, hf, hs⟩ := hx.lay
  refine ⟨by have := h.1; omega, fun j v hv => ?_⟩
  obtain ⟨h1, h2⟩ := h.2 j v hv
  exact ⟨(hc _ _ h.1).trans h1, (hf _ _ h.1).trans h2⟩
theorem hv_at {w : World} {b : Nat} {vs : List Value} {T : TypeId} (h : w.heap.size = b) : HV (w.alloc (.cells vs.toArray T)) b vs := by
  subst h
  refine ⟨by simp, fun j v hv => ⟨?_, ?_⟩⟩
  · rw [World.cell?_alloc_new]
    simpa using hv
  · simp [go_sem]
theorem HV.alloc {w : World} {b : Nat} {vs : List Value} (h : HV w b vs) (o : Obj) : HV (w.alloc o) b vs := h.ext ((Ext.refl _).alloc o)
theorem HV.drew {w : World} {b : Nat} {vs : List Value} (h : HV w b vs) : HV w.drew b vs := h.ext (Ext.refl _).drew
theorem HV.far {w : World} {b g o : Nat} {vs : List Value} {y : Value} (h : HV w b vs) (hb : b ≠ g) : HV (w.setCell ⟨g, o, none⟩ y) b vs := by
  refine ⟨by simpa using h.1, fun j v hv => ?_⟩
  obtain ⟨h1, h2⟩ := h.2 j v hv
  refine ⟨?_, by simpa [go_sem] using h2⟩
  rw [World.cell?_setCell_other _ _ _ _ (by intro e; have := congrArg Addr.block e; dsimp only at this; omega)]
  exact h1
theorem HV.set {w : World} {b : Nat} {vs : List Value} (h : HV w b vs) (j : Nat) (v : Value) : HV (w.setCell ⟨b, j, none⟩ v) b (vs.set j v) := by
  refine ⟨by simpa using h.1, fun i u hu => ?_⟩
  by_cases e : i = j
  · subst e
    rw [List.getElem?_set] at hu
    simp only [if_true] at hu
    by_cases hl : i < vs.length
    · rw [if_pos hl] at hu
      obtain ⟨h1, h2⟩ := h.2 i vs[i] (List.getElem?_eq_getElem hl)
      cases hu
      exact ⟨World.cell?_setCell_same _ _ _ h1, by simpa [go_sem] using h2⟩
    · rw [if_neg hl] at hu
      cases hu
  · rw [List.getElem?_set, if_neg (fun h => e h.symm)] at hu
    obtain ⟨h1, h2⟩ := h.2 i u hu
    refine ⟨?_, by simpa [go_sem] using h2⟩
    rw [World.cell?_setCell_other _ _ _ _ (by intro x; have := congrArg Addr.off x; dsimp only at this; omega)]
    exact h1
/-- cell j of it -/
theorem HV.c {w : World} {b : Nat} {vs : List Value} (h : HV w b vs) (j : Nat) {v : Value} (hv : vs[j]? = some v) : w.cell? ⟨b, j, none⟩ = some v := (h.2 j v hv).1
theorem HV.f {w : World} {b : Nat} {vs : List Value} (h : HV w b vs) (j : Nat) {v : Value} (hv : vs[j]? = some v) : w.frozen? ⟨b, j, none⟩ = false := (h.2 j v hv).2
/-- its cells from o on -/
theorem HV.rng {w : World} {b : Nat} {vs : List Value} (h : HV w b vs) (o : Nat) : w.rangeAt b o (vs.drop o) := fun j v hv => by
  rw [List.getElem?_drop] at hv
  exact h.c (o + j) hv
theorem HV.cells1 {w : World} {b : Nat} {v : Value} (h : HV w b [v]) : w.cell? ⟨b, 0, none⟩ = some v ∧ w.frozen? ⟨b, 0, none⟩ = false := h.2 0 _ rfl
theorem HV.k3 {w : World} {b : Nat} {v0 v1 v2 : Value} (h : HV w b [v0, v1, v2]) : w.cell? ⟨b, 0, none⟩ = some v0 ∧ w.cell? ⟨b, 1, none⟩ = some v1 ∧ w.cell? ⟨b, 2, none⟩ = some v2 :=
  ⟨h.c 0 rfl, h.c 1 rfl, h.c 2 rfl⟩
theorem HV.z3 {w : World} {b : Nat} {v0 v1 v2 : Value} (h : HV w b [v0, v1, v2]) : w.frozen? ⟨b, 0, none⟩ = false ∧ w.frozen? ⟨b, 1, none⟩ = false ∧ w.frozen? ⟨b, 2, none⟩ = false :=
  ⟨h.f 0 rfl, h.f 1 rfl, h.f 2 rfl⟩
theorem HV.k4 {w : World} {b : Nat} {v0 v1 v2 v3 : Value} (h : HV w b [v0, v1, v2, v3]) : w.cell? ⟨b, 0, none⟩ = some v0 ∧ w.cell? ⟨b, 1, none⟩ = some v1 ∧ w.cell? ⟨b, 2, none⟩ = some v2 ∧ w.cell? ⟨b, 3, none⟩ = some v3 :=
  ⟨h.c 0 rfl, h.c 1 rfl, h.c 2 rfl, h.c 3 rfl⟩
theorem HV.z4 {w : World} {b : Nat} {v0 v1 v2 v3 : Value} (h : HV w b [v0, v1, v2, v3]) : w.frozen? ⟨b, 0, none⟩ = false ∧ w.frozen? ⟨b, 1, none⟩ = false ∧ w.frozen? ⟨b, 2, none⟩ = false ∧ w.frozen? ⟨b, 3, none⟩ = false :=
  ⟨h.f 0 rfl, h.f 1 rfl, h.f 2 rfl, h.f 3 rfl⟩
theorem HV.k9 {w : World} {b : Nat} {v0 v1 v2 v3 v4 v5 v6 v7 v8 : Value} (h : HV w b [v0, v1, v2, v3, v4, v5, v6, v7, v8]) : w.cell? ⟨b, 0, none⟩ = some v0 ∧ w.cell? ⟨b, 1, none⟩ = some v1 ∧ w.cell? ⟨b, 2, none⟩ = some v2 ∧ w.cell? ⟨b, 3, none⟩ = some v3 ∧ w.cell? ⟨b, 4, none⟩ = some v4 ∧ w.cell? ⟨b, 5, none⟩ = some v5 ∧ w.cell? ⟨b, 6, none⟩ = some v6 ∧ w.cell? ⟨b, 7, none⟩ = some v7 ∧ w.cell? ⟨b, 8, none⟩ = some v8 :=
  ⟨h.c 0 rfl, h.c 1 rfl, h.c 2 rfl, h.c 3 rfl, h.c 4 rfl, h.c 5 rfl, h.c 6 rfl, h.c 7 rfl, h.c 8 rfl⟩
theorem HV.z9 {w : World} {b : Nat} {v0 v1 v2 v3 v4 v5 v6 v7 v8 : Value} (h : HV w b [v0, v1, v2, v3, v4, v5, v6, v7, v8]) : w.frozen? ⟨b, 0, none⟩ = false ∧ w.frozen? ⟨b, 1, none⟩ = false ∧ w.frozen? ⟨b, 2, none⟩ = false ∧ w.frozen? ⟨b, 3, none⟩ = false ∧ w.frozen? ⟨b, 4, none⟩ = false ∧ w.frozen? ⟨b, 5, none⟩ = false ∧ w.frozen? ⟨b, 6, none⟩ = false ∧ w.frozen? ⟨b, 7, none⟩ = false ∧ w.frozen? ⟨b, 8, none⟩ = false :=
  ⟨h.f 0 rfl, h.f 1 rfl, h.f 2 rfl, h.f 3 rfl, h.f 4 rfl, h.f 5 rfl, h.f 6 rfl, h.f 7 rfl, h.f 8 rfl⟩
theorem HV.k16 {w : World} {b : Nat} {v0 v1 v2 v3 v4 v5 v6 v7 v8 v9 v10 v11 v12 v13 v14 v15 : Value} (h : HV w b [v0, v1, v2, v3, v4, v5, v6, v7, v8, v9, v10, v11, v12, v13, v14, v15]) : w.cell? ⟨b, 0, none⟩ = some v0 ∧ w.cell? ⟨b, 1, none⟩ = some v1 ∧ w.cell? ⟨b, 2, none⟩ = some v2 ∧ w.cell? ⟨b, 3, none⟩ = some v3 ∧ w.cell? ⟨b, 4, none⟩ = some v4 ∧ w.cell? ⟨b, 5, none⟩ = some v5 ∧ w.cell? ⟨b, 6, none⟩ = some v6 ∧ w.cell? ⟨b, 7, none⟩ = some v7 ∧ w.cell? ⟨b, 8, none⟩ = some v8 ∧ w.cell? ⟨b, 9, none⟩ = some v9 ∧ w.cell? ⟨b, 10, none⟩ = some v10 ∧ w.cell? ⟨b, 11, none⟩ = some v11 ∧ w.cell? ⟨b, 12, none⟩ = some v12 ∧ w.cell? ⟨b, 13, none⟩ = some v13 ∧ w.cell? ⟨b, 14, none⟩ = some v14 ∧ w.cell? ⟨b, 15, none⟩ = some v15 :=
  ⟨h.c 0 rfl, h.c 1 rfl, h.c 2 rfl, h.c 3 rfl, h.c 4 rfl, h.c 5 rfl, h.c 6 rfl, h.c 7 rfl, h.c 8 rfl, h.c 9 rfl, h.c 10 rfl, h.c 11 rfl, h.c 12 rfl, h.c 13 rfl, h.c 14 rfl, h.c 15 rfl⟩
theorem HV.z16 {w : World} {b : Nat} {v0 v1 v2 v3 v4 v5 v6 v7 v8 v9 v10 v11 v12 v13 v14 v15 : Value} (h : HV w b [v0, v1, v2, v3, v4, v5, v6, v7, v8, v9, v10, v11, v12, v13, v14, v15]) : w.frozen? ⟨b, 0, none⟩ = false ∧ w.frozen? ⟨b, 1, none⟩ = false ∧ w.frozen? ⟨b, 2, none⟩ = false ∧ w.frozen? ⟨b, 3, none⟩ = false ∧ w.frozen? ⟨b, 4, none⟩ = false ∧ w.frozen? ⟨b, 5, none⟩ = false ∧ w.frozen? ⟨b, 6, none⟩ = false ∧ w.frozen? ⟨b, 7, none⟩ = false ∧ w.frozen? ⟨b, 8, none⟩ = false ∧ w.frozen? ⟨b, 9, none⟩ = false ∧ w.frozen? ⟨b, 10, none⟩ = false ∧ w.frozen? ⟨b, 11, none⟩ = false ∧ w.frozen? ⟨b, 12, none⟩ = false ∧ w.frozen? ⟨b, 13, none⟩ = false ∧ w.frozen? ⟨b, 14, none⟩ = false ∧ w.frozen? ⟨b, 15, none⟩ = false :=
  ⟨h.f 0 rfl, h.f 1 rfl, h.f 2 rfl, h.f 3 rfl, h.f 4 rfl, h.f 5 rfl, h.f 6 rfl, h.f 7 rfl, h.f 8 rfl, h.f 9 rfl, h.f 10 rfl, h.f 11 rfl, h.f 12 rfl, h.f 13 rfl, h.f 14 rfl, h.f 15 rfl⟩
theorem HV.k20 {w : World} {b : Nat} {v0 v1 v2 v3 v4 v5 v6 v7 v8 v9 v10 v11 v12 v13 v14 v15 v16 v17 v18 v19 : Value} (h : HV w b [v0, v1, v2, v3, v4, v5, v6, v7, v8, v9, v10, v11, v12, v13, v14, v15, v16, v17, v18, v19]) : w.cell? ⟨b, 0, none⟩ = some v0 ∧ w.cell? ⟨b, 1, none⟩ = some v1 ∧ w.cell? ⟨b, 2, none⟩ = some v2 ∧ w.cell? ⟨b, 3, none⟩ = some v3 ∧ w.cell? ⟨b, 4, none⟩ = some v4 ∧ w.cell? ⟨b, 5, none⟩ = some v5 ∧ w.cell? ⟨b, 6, none⟩ = some v6 ∧ w.cell? ⟨b, 7, none⟩ = some v7 ∧ w.cell? ⟨b, 8, none⟩ = some v8 ∧ w.cell? ⟨b, 9, none⟩ = some v9 ∧ w.cell? ⟨b, 10, none⟩ = some v10 ∧ w.cell? ⟨b, 11, none⟩ = some v11 ∧ w.cell? ⟨b, 12, none⟩ = some v12 ∧ w.cell? ⟨b, 13, none⟩ = some v13 ∧ w.cell? ⟨b, 14, none⟩ = some v14 ∧ w.cell? ⟨b, 15, none⟩ = some v15 ∧ w.cell? ⟨b, 16, none⟩ = some v16 ∧ w.cell? ⟨b, 17, none⟩ = some v17 ∧ w.cell? ⟨b, 18, none⟩ = some v18 ∧ w.cell? ⟨b, 19, none⟩ = some v19 :=
  ⟨h.c 0 rfl, h.c 1 rfl, h.c 2 rfl, h.c 3 rfl, h.c 4 rfl, h.c 5 rfl, h.c 6 rfl, h.c 7 rfl, h.c 8 rfl, h.c 9 rfl, h.c 10 rfl, h.c 11 rfl, h.c 12 rfl, h.c 13 rfl, h.c 14 rfl, h.c 15 rfl, h.c 16 rfl, h.c 17 rfl, h.c 18 rfl, h.c 19 rfl⟩
theorem HV.z20 {w : World} {b : Nat} {v0 v1 v2 v3 v4 v5 v6 v7 v8 v9 v10 v11 v12 v13 v14 v15 v16 v17 v18 v19 : Value} (h : HV w b [v0, v1, v2, v3, v4, v5, v6, v7, v8, v9, v10, v11, v12, v13, v14, v15, v16, v17, v18, v19]) : w.frozen? ⟨b, 0, none⟩ = false ∧ w.frozen? ⟨b, 1, none⟩ = false ∧ w.frozen? ⟨b, 2, none⟩ = false ∧ w.frozen? ⟨b, 3, none⟩ = false ∧ w.frozen? ⟨b, 4, none⟩ = false ∧ w.frozen? ⟨b, 5, none⟩ = false ∧ w.frozen? ⟨b, 6, none⟩ = false ∧ w.frozen? ⟨b, 7, none⟩ = false ∧ w.frozen? ⟨b, 8, none⟩ = false ∧ w.frozen? ⟨b, 9, none⟩ = false ∧ w.frozen? ⟨b, 10, none⟩ = false ∧ w.frozen? ⟨b, 11, none⟩ = false ∧ w.frozen? ⟨b, 12, none⟩ = false ∧ w.frozen? ⟨b, 13, none⟩ = false ∧ w.frozen? ⟨b, 14, none⟩ = false ∧ w.frozen? ⟨b, 15, none⟩ = false ∧ w.frozen? ⟨b, 16, none⟩ = false ∧ w.frozen? ⟨b, 17, none⟩ = false ∧ w.frozen? ⟨b, 18, none⟩ = false ∧ w.frozen? ⟨b, 19, none⟩ = false :=
  ⟨h.f 0 rfl, h.f 1 rfl, h.f 2 rfl, h.f 3 rfl, h.f 4 rfl, h.f 5 rfl, h.f 6 rfl, h.f 7 rfl, h.f 8 rfl, h.f 9 rfl, h.f 10 rfl, h.f 11 rfl, h.f 12 rfl, h.f 13 rfl, h.f 14 rfl, h.f 15 rfl, h.f 16 rfl, h.f 17 rfl, h.f 18 rfl, h.f 19 rfl⟩
end Go.Proofs.Yteimgbafclhkpaa

namespace Go.Proofs.Yteimgbafclhkpaa
open Go.RowKit
theorem IsI.put2 {w : World} {g : Nat} {v x0 x1 : Value} {z : Int} (h : IsI w v z) (hV : HV w g [.bool false, .slice none 0 0]) : IsI ((w.setCell ⟨g, 0, none⟩ x0).setCell ⟨g, 1, none⟩ x1) v z :=
  (h.set (hV.c 0 rfl) (by simp)).set ((hV.set 0 x0).c 1 rfl) (by simp)
set_option maxHeartbeats 16000000 in
theorem over_cut (ba bc : Bool) (aa ac : Option Addr) (la ka lc kc : Nat) (x : Int) (d s : Nat) (N' : Int) (D' : Nat) (w : World)
    (IA : Hid (IsI w (.agg #[.bool ba, .slice aa la ka]) x)) (IC : Hid (IsN w (.slice ac lc kc) d))
    (HT : Hid (∀ r1 r2 w', IsI w' r1 x → IsI w' r2 x → Calls Try.prog 41 #[r1, r2] w' fun e w'' => (∃ r, e = .returned r ∧ IsI w'' r (x * x)) ∧ Ext w' w''))
    (HM : Hid (∀ r v w', IsI w' r (x * x) → IsN w' v d → Calls Try.prog 40 #[r, v] w' fun e w'' => (∃ q, e = .returned q ∧ IsQ w'' q N' D') ∧ Ext w' w''))
    (HR : Hid (∀ q w', IsQ w' q N' D' → Calls Try.prog 39 #[q] w' fun e w'' => (∃ r, e = .returned r ∧ IsI w'' r (s : Int)) ∧ Ext w' w''))
    (HN : Hid (∀ r w', IsI w' r (s : Int) → Calls Try.prog 42 #[r] w' fun e w'' => (∃ r', e = .returned r' ∧ IsI w'' r' (-(s : Int))) ∧ Ext w' w'')) :
    Calls Try.prog 22 #[.agg #[.bool ba, .slice aa la ka], .agg #[.bool bc, .slice ac lc kc]] w fun e w' => (∃ r, e = .returned r ∧ IsI w' r (if ba then -(s : Int) else (s : Int))) ∧ Ext w w' := by
  have GA : Hid (HV (((w.alloc (.cells #[.bool ba, .slice aa la ka] 53)).alloc (.cells #[.bool bc, .slice ac lc kc] 53)).alloc (.cells #[.bool false, .slice none 0 0] 53)) w.heap.size [.bool ba, .slice aa la ka]) := HV.alloc (HV.alloc (hv_at rfl) _) _
  have GC : Hid (HV (((w.alloc (.cells #[.bool ba, .slice aa la ka] 53)).alloc (.cells #[.bool bc, .slice ac lc kc] 53)).alloc (.cells #[.bool false, .slice none 0 0] 53)) (w.heap.size + 1) [.bool bc, .slice ac lc kc]) := HV.alloc (hv_at (by simp)) _
  have GR : Hid (HV (((w.alloc (.cells #[.bool ba, .slice aa la ka] 53)).alloc (.cells #[.bool bc, .slice ac lc kc] 53)).alloc (.cells #[.bool false, .slice none 0 0] 53)) (w.heap.size + 1 + 1) [.bool false, .slice none 0 0]) := hv_at (by simp)
  have E0 : Hid (Ext w (((w.alloc (.cells #[.bool ba, .slice aa la ka] 53)).alloc (.cells #[.bool bc, .slice ac lc kc] 53)).alloc (.cells #[.bool false, .slice none 0 0] 53))) := (((Ext.refl _).alloc _).alloc _).alloc _
  have IA : Hid (IsI (((w.alloc (.cells #[.bool ba, .slice aa la ka] 53)).alloc (.cells #[.bool bc, .slice ac lc kc] 53)).alloc (.cells #[.bool false, .slice none 0 0] 53)) (.agg #[.bool ba, .slice aa la ka]) x) := IA.out.ext E0.out
  have IC : Hid (IsN (((w.alloc (.cells #[.bool ba, .slice aa la ka] 53)).alloc (.cells #[.bool bc, .slice ac lc kc] 53)).alloc (.cells #[.bool false, .slice none 0 0] 53)) (.slice ac lc kc) d) := IC.out.ext E0.out
  go_enter Try.func22, Try.ntmps22
  go_upto_region 1 with fail
  generalize (((w.alloc (.cells #[.bool ba, .slice aa la ka] 53)).alloc (.cells #[.bool bc, .slice ac lc kc] 53)).alloc (.cells #[.bool false, .slice none 0 0] 53)) = wB at *
  go_cut [5] (fun v5 wx => ∃ (g : Nat) (b : Bool) (a : Option Addr) (l c : Nat), v5 = .pointer (some ⟨g, 0, none⟩) ∧ Hid (wB.heap.size ≤ g) ∧ Hid (HV wx g [.bool b, .slice a l c]) ∧ Hid (IsI wx (.agg #[.bool b, .slice a l c]) (s : Int)) ∧ Hid (Ext wB wx))
  case first =>
    have ga := GA.out.c 0 rfl
    have gb := GA.out.c 1 rfl
    have gc := GC.out.c 0 rfl
    have gd := GC.out.c 1 rfl
    have la' := GA.out.1
    have lb' := GC.out.1
    have na := Nat.ne_of_lt la'
    have nb := Nat.ne_of_gt la'
    have nc := Nat.ne_of_lt lb'
    have nd := Nat.ne_of_gt lb'
    go_region_held3 (fun w' => w'.cell? ⟨w.heap.size, 0, none⟩ = some (.bool ba) ∧ w'.cell? ⟨w.heap.size, 1, none⟩ = some (.slice aa la ka) ∧ w'.cell? ⟨w.heap.size + 1, 0, none⟩ = some (.bool bc) ∧ w'.cell? ⟨w.heap.size + 1, 1, none⟩ = some (.slice ac lc kc)) (first | (go_keep; done) | (refine ⟨?_, ?_, ?_, ?_⟩ <;> (rw [World.cell?_setCell_far _ _ _ _ (by dsimp only; omega), World.cell?_setCell_far _ _ _ _ (by dsimp only; omega)]; with_reducible assumption)) | skip) (first | (go_at_call 41; refine (HT.out _ _ _ (IA.out.ext (by repeat (first | with_reducible assumption | with_reducible exact Ext.refl _ | with_reducible refine Ext.drew ?_ | with_reducible refine Ext.drewN ?_ _ | with_reducible refine Ext.alloc ?_ _ | with_reducible refine Ext.set ?_ (by first | exact Nat.le_refl _ | (dsimp only; omega) | (simp; done)) _))) (IA.out.ext (by repeat (first | with_reducible assumption | with_reducible exact Ext.refl _ | with_reducible refine Ext.drew ?_ | with_reducible refine Ext.drewN ?_ _ | with_reducible refine Ext.alloc ?_ _ | with_reducible refine Ext.set ?_ (by first | exact Nat.le_refl _ | (dsimp only; omega) | (simp; done)) _)))).mono ?_; rintro e wP ⟨⟨rP, rfl, hP⟩, xP⟩; have YP : Ext wB wP := Ext.trans (by repeat (first | with_reducible assumption | with_reducible exact Ext.refl _ | with_reducible refine Ext.drew ?_ | with_reducible refine Ext.drewN ?_ _ | with_reducible refine Ext.alloc ?_ _ | with_reducible refine Ext.set ?_ (by first | exact Nat.le_refl _ | (dsimp only; omega) | (simp; done)) _)) xP; have gaP := (GA.out.ext YP).c 0 rfl; have gbP := (GA.out.ext YP).c 1 rfl; have gcP := (GC.out.ext YP).c 0 rfl; have gdP := (GC.out.ext YP).c 1 rfl; have laP := (GA.out.ext YP).1; have lbP := (GC.out.ext YP).1; have naP := Nat.ne_of_lt laP; have nbP := Nat.ne_of_gt laP; have ncP := Nat.ne_of_lt lbP; have ndP := Nat.ne_of_gt lbP; (first | (have N : Hid (HV wP _ [.bool false, .slice none 0 0]) := N.out.ext xP) | (have N : Hid (HV wP _ [.bool false, .slice none 0 0]) := (hv_at rfl).ext xP) | (have N : Hid (HV wP _ [.bool false, .slice none 0 0]) := (HV.drew (hv_at rfl)).ext xP) | (have N : Hid (HV wP _ [.bool false, .slice none 0 0]) := (HV.alloc N.out _).ext xP) | skip)) | (go_at_call 40; refine (HM.out _ _ _ (hP.ext (by repeat (first | with_reducible assumption | with_reducible exact Ext.refl _ | with_reducible refine Ext.drew ?_ | with_reducible refine Ext.drewN ?_ _ | with_reducible refine Ext.alloc ?_ _ | with_reducible refine Ext.set ?_ (by first | exact Nat.le_refl _ | (dsimp only; omega) | (simp; done)) _))) (IC.out.ext (Ext.trans YP (by repeat (first | with_reducible assumption | with_reducible exact Ext.refl _ | with_reducible refine Ext.drew ?_ | with_reducible refine Ext.drewN ?_ _ | with_reducible refine Ext.alloc ?_ _ | with_reducible refine Ext.set ?_ (by first | exact Nat.le_refl _ | (dsimp only; omega) | (simp; done)) _))))).mono ?_; rintro e wT ⟨⟨rT, rfl, hT⟩, xT⟩; have YT : Ext wB wT := Ext.trans (by repeat (first | with_reducible assumption | with_reducible exact Ext.refl _ | with_reducible refine Ext.drew ?_ | with_reducible refine Ext.drewN ?_ _ | with_reducible refine Ext.alloc ?_ _ | with_reducible refine Ext.set ?_ (by first | exact Nat.le_refl _ | (dsimp only; omega) | (simp; done)) _)) xT; have gaT := (GA.out.ext YT).c 0 rfl; have gbT := (GA.out.ext YT).c 1 rfl; have gcT := (GC.out.ext YT).c 0 rfl; have gdT := (GC.out.ext YT).c 1 rfl; have laT := (GA.out.ext YT).1; have lbT := (GC.out.ext YT).1; have naT := Nat.ne_of_lt laT; have nbT := Nat.ne_of_gt laT; have ncT := Nat.ne_of_lt lbT; have ndT := Nat.ne_of_gt lbT; (first | (have N : Hid (HV wT _ [.bool false, .slice none 0 0]) := N.out.ext xT) | (have N : Hid (HV wT _ [.bool false, .slice none 0 0]) := (hv_at rfl).ext xT) | (have N : Hid (HV wT _ [.bool false, .slice none 0 0]) := (HV.drew (hv_at rfl)).ext xT) | (have N : Hid (HV wT _ [.bool false, .slice none 0 0]) := (HV.alloc N.out _).ext xT) | skip)) | (go_at_call 39; refine (HR.out _ _ (hT.ext (by repeat (first | with_reducible assumption | with_reducible exact Ext.refl _ | with_reducible refine Ext.drew ?_ | with_reducible refine Ext.drewN ?_ _ | with_reducible refine Ext.alloc ?_ _ | with_reducible refine Ext.set ?_ (by first | exact Nat.le_refl _ | (dsimp only; omega) | (simp; done)) _)))).mono ?_; rintro e wR ⟨⟨rR, rfl, hR⟩, xR⟩; have YR : Ext wB wR := Ext.trans (by repeat (first | with_reducible assumption | with_reducible exact Ext.refl _ | with_reducible refine Ext.drew ?_ | with_reducible refine Ext.drewN ?_ _ | with_reducible refine Ext.alloc ?_ _ | with_reducible refine Ext.set ?_ (by first | exact Nat.le_refl _ | (dsimp only; omega) | (simp; done)) _)) xR; have gaR := (GA.out.ext YR).c 0 rfl; have gbR := (GA.out.ext YR).c 1 rfl; have gcR := (GC.out.ext YR).c 0 rfl; have gdR := (GC.out.ext YR).c 1 rfl; have laR := (GA.out.ext YR).1; have lbR := (GC.out.ext YR).1; have naR := Nat.ne_of_lt laR; have nbR := Nat.ne_of_gt laR; have ncR := Nat.ne_of_lt lbR; have ndR := Nat.ne_of_gt lbR; (first | (have N : Hid (HV wR _ [.bool false, .slice none 0 0]) := N.out.ext xR) | (have N : Hid (HV wR _ [.bool false, .slice none 0 0]) := (hv_at rfl).ext xR) | (have N : Hid (HV wR _ [.bool false, .slice none 0 0]) := (HV.drew (hv_at rfl)).ext xR) | (have N : Hid (HV wR _ [.bool false, .slice none 0 0]) := (HV.alloc N.out _).ext xR) | skip); obtain ⟨uu, huu, hkk⟩ := hR; obtain ⟨au, lu, cu, hau⟩ := hkk.isSlice; subst hau; subst huu; have HI : Hid (IsI wR (.agg #[.bool (decide ((s : Int) < 0)), .slice au lu cu]) (s : Int)) := ⟨_, rfl, hkk⟩; clear hkk; generalize decide ((s : Int) < 0) = bs at *; (first | (have n0 := N.out.c 0 rfl; have n1 := N.out.c 1 rfl; have f0 := N.out.f 0 rfl; have f1 := N.out.f 1 rfl) | skip)))
    all_goals
      go_wp2_with fail
      go_meet
      first
        | exact ⟨wR.heap.size, _, _, _, _, rfl, YR.size, hv_at rfl, HI.out.ext ((Ext.refl _).alloc _), YR.alloc _⟩
        | exact (have hg : wB.heap.size ≤ wB.heap.size := Nat.le_refl _; ⟨wB.heap.size, _, _, _, _, rfl, hg, (N.out.set 0 _).set 1 _, HI.out.put2 N.out, (YR.set (p := ⟨_, 0, none⟩) hg _).set (p := ⟨_, 1, none⟩) hg _⟩)
        | exact (have hg : wB.heap.size ≤ wP.heap.size := YP.size; ⟨wP.heap.size, _, _, _, _, rfl, hg, (N.out.set 0 _).set 1 _, HI.out.put2 N.out, (YR.set (p := ⟨_, 0, none⟩) hg _).set (p := ⟨_, 1, none⟩) hg _⟩)
        | exact (have hg : wB.heap.size ≤ wT.heap.size := YT.size; ⟨wT.heap.size, _, _, _, _, rfl, hg, (N.out.set 0 _).set 1 _, HI.out.put2 N.out, (YR.set (p := ⟨_, 0, none⟩) hg _).set (p := ⟨_, 1, none⟩) hg _⟩)
  case rest =>
    obtain ⟨gp, b, a, l, c, rfl, hG0, hH, HI, hE⟩ := hcut
    have EE : Hid (Ext w wc) := E0.out.trans hE.out
    have GA := GA.out.ext hE.out
    have GR := GR.out.ext hE.out
    clear GC IC HT HM HR IA
    have q0 := hH.out.c 0 rfl
    have q1 := hH.out.c 1 rfl
    have g0 := GA.c 0 rfl
    have m0 := GR.c 0 rfl
    have m1 := GR.c 1 rfl
    have m2 := GR.f 0 rfl
    have m3 := GR.f 1 rfl
    have ml := GR.1
    cases ba
    · go_wp2_with fail
      exact bodyPost_ret (v := .agg #[.bool b, .slice a l c]) (by simp [results, Try.results22, go_sem, m0, m1]) rfl ⟨⟨_, rfl, HI.out.put2 GR⟩, (EE.out.set (p := ⟨w.heap.size + 1 + 1, 0, none⟩) (by dsimp only; omega) _).set (p := ⟨w.heap.size + 1 + 1, 1, none⟩) (by dsimp only; omega) _⟩
    · go_wp2_with fail
      refine (HN.out _ _ HI.out).mono ?_
      rintro e wN ⟨⟨rN, rfl, hN⟩, xN⟩
      obtain ⟨uu, huu, hkk⟩ := hN
      obtain ⟨au, lu, cu, hau⟩ := hkk.isSlice
      subst hau
      subst huu
      have HJ : Hid (IsI wN (.agg #[.bool (decide (-(s : Int) < 0)), .slice au lu cu]) (-(s : Int))) := ⟨_, rfl, hkk⟩
      clear hkk m0 m1 m2 m3 ml q0 q1 g0
      generalize decide (-(s : Int) < 0) = bs at *
      have GR := GR.ext xN
      have m0 := GR.c 0 rfl
      have m1 := GR.c 1 rfl
      have m2 := GR.f 0 rfl
      have m3 := GR.f 1 rfl
      have ml := GR.1
      have EE := EE.out.trans xN
      go_wp2_with fail
      exact bodyPost_ret (v := .agg #[.bool bs, .slice au lu cu]) (by simp [results, Try.results22, go_sem, m0, m1]) rfl ⟨⟨_, rfl, HJ.out.put2 GR⟩, (EE.set (p := ⟨w.heap.size + 1 + 1, 0, none⟩) (by dsimp only; omega) _).set (p := ⟨w.heap.size + 1 + 1, 1, none⟩) (by dsimp only; omega) _⟩
end Go.Proofs.Yteimgbafclhkpaa
