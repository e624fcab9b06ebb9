/- BusRegisters: its walk. -/
import Derived.Test.YtfgljkeohoffiaaGw
namespace Go.Proofs.Ytfgljkeohoffiaa
open Go.RowKit Go.Conc
abbrev scv (am : Option Addr) (lm cm : Nat) (af : Option Addr) (lf cf : Nat) (al : Option Addr) (ll cl : Nat) : Value := .agg #[.slice am lm cm, .slice af lf cf, .slice al ll cl]
abbrev scc (am : Option Addr) (lm cm : Nat) (af : Option Addr) (lf cf : Nat) (al : Option Addr) (ll cl : Nat) : Obj := .cells #[.slice am lm cm, .slice af lf cf, .slice al ll cl] 26
/-- a variable of a script -/
def SC (w : World) (k : Nat) (am : Option Addr) (lm cm : Nat) (af : Option Addr) (lf cf : Nat) (al : Option Addr) (ll cl : Nat) : Prop :=
  w.cell? ⟨k, 0, none⟩ = some (.slice am lm cm) ∧ w.cell? ⟨k, 1, none⟩ = some (.slice af lf cf) ∧ w.cell? ⟨k, 2, none⟩ = some (.slice al ll cl)
theorem sc_new {w : World} {am : Option Addr} {lm cm : Nat} {af : Option Addr} {lf cf : Nat} {al : Option Addr} {ll cl : Nat} : SC (w.alloc (scc am lm cm af lf cf al ll cl)) w.heap.size am lm cm af lf cf al ll cl := by
  refine ⟨?_, ?_, ?_⟩ <;> simp [go_sem]
theorem SC.ext {w w' : World} {k : Nat} {am : Option Addr} {lm cm : Nat} {af : Option Addr} {lf cf : Nat} {al : Option Addr} {ll cl : Nat} (h : SC w k am lm cm af lf cf al ll cl) (x : Ext w w') : SC w' k am lm cm af lf cf al ll cl := ⟨x.keepc h.1, x.keepc h.2.1, x.keepc h.2.2⟩
/-- four bytes laid out -/
theorem lit4 {w w1 : World} {a : Option Addr} {c : Nat} {x : Int} {p q : Int} {z : Int} {l : List Int} (h : RdB w (.slice a 4 c) l) (hl : l = [x, p, q, z]) (e : Ext w w1) :
    Calls Try.prog 28 #[.slice a 4 c, .slice (some ⟨w1.heap.size, 0, none⟩) 4 4] (w1.alloc (.cells #[.int .u8 x, .int .u8 p, .int .u8 q, .int .u8 z] Eb)) fun e w' => e = .returned (.bool true) ∧ Ext w1 w' := by
  subst hl
  have y : Ext w1 (w1.alloc (.cells #[.int .u8 x, .int .u8 p, .int .u8 q, .int .u8 z] Eb)) := (Ext.refl w1).alloc _
  refine (eq_bytes (l := [x, p, q, z]) _ _ _ ((h.ext e).ext y) ⟨_, 4, rfl, fun j hj => ⟨_, _, rfl, ?_⟩⟩ (by simp)).mono ?_
  · match j, hj with
    | 0, _ => simp [go_sem]
    | 1, _ => simp [go_sem]
    | 2, _ => simp [go_sem]
    | 3, _ => simp [go_sem]
    | j + 4, h => simp at h; omega
  · rintro e w' ⟨rfl, z⟩
    exact ⟨rfl, y.trans z⟩
end Go.Proofs.Ytfgljkeohoffiaa
