/- WheelExact: a wheel and the reference's. -/
import Derived.Test.YtiallnpmgdjdfaaXt
namespace Go.Proofs.Ytiallnpmgdjdfaa
open Go.RowKit
/-- the wheel at p, the reference's at q: they have nothing in common -/
structure Ex (w wr : World) (p : Nat) (v : Value) (Sa : List Tm) (T : Int) (q : Nat) (u : Value) (Sb : List Tm) : Prop where
  a : Wh wr p v Sa T
  b : RW wr q u Sb
  x : Ext w wr
  oa : ∀ k, own p v k → w.heap.size ≤ k
  ob : ∀ k, own q u k → w.heap.size ≤ k
  d : ∀ k, own p v k → ¬ own q u k
section
variable {w wr w' : World} {p q : Nat} {v v' u u' : Value} {Sa Sa' Sb Sb' : List Tm} {T T' : Int}
theorem Ex.ext (h : Ex w wr p v Sa T q u Sb) (x : Ext wr w') : Ex w w' p v Sa T q u Sb := ⟨h.a.ext x, h.b.ext x, h.x.trans x, h.oa, h.ob, h.d⟩
/-- something else has turned -/
theorem Ex.other (h : Ex w wr p v Sa T q u Sb) {o : Nat → Prop} (t : Turn o wr w') (h1 : ∀ k, o k → w.heap.size ≤ k) (h2 : ∀ k, o k → ¬ own p v k) (h3 : ∀ k, o k → ¬ own q u k) : Ex w w' p v Sa T q u Sb :=
  ⟨h.a.far t (fun k o1 o2 => h2 k o2 o1), h.b.far t (fun k o1 o2 => h3 k o2 o1), t.below h.x h1, h.oa, h.ob, h.d⟩
theorem Ex.left (h : Ex w wr p v Sa T q u Sb) (g : Goes p v v' wr w') (hw : Wh w' p v' Sa' T') : Ex w w' p v' Sa' T' q u Sb := by
  refine ⟨hw, h.b.far g.1 (fun k o1 o2 => h.d k o2 o1), g.1.below h.x h.oa, fun k o => ?_, h.ob, fun k o o' => ?_⟩
  · rcases o with o | o
    · exact h.oa k (.inl o)
    · rcases g.2 k o with z | z
      · exact h.oa k (.inr z)
      · have := h.x.size; omega
  · rcases o with o | o
    · exact h.d k (.inl o) o'
    · rcases g.2 k o with z | z
      · exact h.d k (.inr z) o'
      · have := h.b.lt k o'; omega
theorem Ex.right (h : Ex w wr p v Sa T q u Sb) (t : Turn (fun k => k = q) wr w') (hw : RW w' q u' Sb') (hn : ∀ k, u'.ownBlock = some k → wr.heap.size ≤ k) : Ex w w' p v Sa T q u' Sb' := by
  refine ⟨h.a.far t (fun k o1 o2 => h.d k o1 (.inl o2)), hw, t.below h.x (fun i o => h.ob i (.inl o)), h.oa, fun k o => ?_, fun k o o' => ?_⟩
  · rcases o with o | o
    · exact h.ob k (.inl o)
    · have := hn k o; have := h.x.size; omega
  · rcases o' with o' | o'
    · exact h.d k o (.inl o')
    · have := hn k o'; have := h.a.lt k o; omega
end
/-- a row that was made anew, written over -/
theorem spoil_any {w wr : World} {p q : Nat} {v u : Value} {S : List Tm} {T : Int} {B n : Nat} (r : Value) (h : Ex w wr p v S T q u S) (hr : Row wr B r n) (hn : n ≤ 100000) (hB : w.heap.size ≤ B) (h1 : ∀ k, own p v k → r.ownBlock ≠ some k) (h2 : ∀ k, own q u k → r.ownBlock ≠ some k) :
    Calls Try.prog 14 #[r] wr fun e w' => (∃ u, e = .returned u) ∧ Ex w w' p v S T q u S := by
  refine (spoil_timers r wr hr hn).mono fun e w' ⟨he, t⟩ => ⟨he, h.other t (fun k o => ?_) (fun k o o' => h1 k o' o) (fun k o o' => h2 k o' o)⟩
  obtain ⟨xs, _, hr⟩ := hr
  have := (hr.lt k o).1
  omega
theorem ex_new {w w1 : World} {q : Nat} (h : Wh w1 w.heap.size (.slice none 0 0) [] 0) (x : Ext w w1) (hq : w1.heap.size = q) : Ex w (w1.alloc (.cells #[.slice none 0 0] 28)) w.heap.size (.slice none 0 0) [] 0 q (.slice none 0 0) [] := by
  subst hq
  have hlt := h.lt _ (.inl rfl)
  refine ⟨h.ext ((Ext.refl w1).alloc _), ⟨⟨by simp [go_sem], by simp [go_sem]⟩, World.ownsRow_nil _ _ _ _, by simp [Value.ownBlock]⟩, x.alloc _, fun k o => ?_, fun k o => ?_, fun k o o' => ?_⟩
  · rcases o with o | o
    · omega
    · simp [Value.ownBlock] at o
  · rcases o with o | o
    · omega
    · simp [Value.ownBlock] at o
  · rcases o with o | o
    · rcases o' with o' | o'
      · omega
      · simp [Value.ownBlock] at o'
    · simp [Value.ownBlock] at o
theorem filt_eq (id : Int) (S : List Tm) : S.filter (fun t => t.1 ≠ id) = filt id S := rfl
end Go.Proofs.Ytiallnpmgdjdfaa
