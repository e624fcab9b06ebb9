/- wide: Unit. -/
import Derived.Test.YtojcndgoihkfnaaW7
import Derived.Deep.DeepCutAuto
namespace Go.Proofs.Ytojcndgoihkfnaa
open Go.RowKit Go.Shelf

theorem hid_ext {w w' : World} {b : Nat} {u v x : Value} (h : Hid (H3 w b u v x)) (hx : Ext w w') : Hid (H3 w' b u v x) := h.out.ext hx
theorem ext_newA {X w' : World} {u v x : Value} {T : TypeId} (h : Ext (X.alloc (.cells #[u, v, x] T)) w') : Hid (H3 w' X.heap.size u v x) := (h3_at rfl).ext h
theorem ext_newD {X w' : World} {u v x : Value} {T : TypeId} (h : Ext (X.alloc (.cells #[u, v, x] T)).drew w') : Hid (H3 w' X.heap.size u v x) := (H3.drew (h3_at rfl)).ext h
theorem H3.set3u {w : World} {b : Nat} {u v x : Value} (h : H3 w b u v x) (u' v' x' : Value) : H3 (((w.setCell ⟨b, 0, none⟩ u').setCell ⟨b, 1, none⟩ v').setCell ⟨b, 2, none⟩ x') b u' v' x' := by
  obtain ⟨h0, h1, h2, f0, f1, f2, hb⟩ := h
  refine ⟨?_, ?_, ?_, ?_, ?_, ?_, ?_⟩ <;> simp [go_sem, h0, h1, h2, f0, f1, f2, hb]
/-- the variable part, behind its region -/
def Part (w wx : World) (g : Nat) (k : Int) : Prop := ∃ s0 s1 s2 : Int, H3 wx g (.int .u64 s0) (.int .u64 s1) (.int .u64 s2) ∧ IsW (.agg #[.int .u64 s0, .int .u64 s1, .int .u64 s2]) k ∧ Ext w wx ∧ w.heap.size ≤ g
theorem part_a {w wR : World} {s0 s1 s2 k : Int} {T : TypeId} (hR : Hid (s0 = l0 k ∧ s1 = l1 k ∧ s2 = l2 k)) (y : Ext w wR) : Hid (Part w (wR.alloc (.cells #[.int .u64 s0, .int .u64 s1, .int .u64 s2] T)) wR.heap.size k) :=
  ⟨s0, s1, s2, h3_at rfl, ⟨_, _, _, rfl, hR.out⟩, y.alloc _, y.size⟩
theorem part_b {w wR : World} {g : Nat} {u v x : Value} {s0 s1 s2 k : Int} (hN : Hid (H3 wR g u v x)) (hR : Hid (s0 = l0 k ∧ s1 = l1 k ∧ s2 = l2 k)) (y : Ext w wR) (hg : w.heap.size ≤ g) :
    Hid (Part w (((wR.setCell ⟨g, 0, none⟩ (.int .u64 s0)).setCell ⟨g, 1, none⟩ (.int .u64 s1)).setCell ⟨g, 2, none⟩ (.int .u64 s2)) g k) :=
  ⟨s0, s1, s2, hN.out.set3u _ _ _, ⟨_, _, _, rfl, hR.out⟩, ((y.set hg _).set hg _).set hg _, hg⟩

theorem rootw_det (p n k : Nat) (u v : Value) (w : World) (hk : RootQ p n k) (hu : IsW u p) (hv : IsW v n) (h0 : 0 < n) (hn : n < 4951760157141521099596496896) (hp : p / n < 4951760157141521099596496896) (hp2 : p < 98079714615416886934934209737619787751599303819750539264) :
    Calls Try.prog 56 #[u, v] w fun e w' => (∃ r, e = .returned r ∧ IsW r (k : Int)) ∧ Ext w w' := by
  refine (rootw_any p n u v w hu hv h0 hn hp hp2).mono ?_
  rintro e w1 ⟨⟨r, rfl, k', h1, h2, _⟩, x1⟩
  rw [rootQ_unique h0 h2 hk] at h1
  exact ⟨⟨r, rfl, h1⟩, x1⟩

def sgd (v : Int) (k : Nat) : Int := if v < 0 then -(k : Int) else (k : Int)
end Go.Proofs.Ytojcndgoihkfnaa
