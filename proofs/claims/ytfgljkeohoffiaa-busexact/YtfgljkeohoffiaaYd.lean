/- The reference's bus: Do. -/
import Derived.Test.YtfgljkeohoffiaaYc
import Derived.Test.YtfgljkeohoffiaaZk
import Derived.Test.YtfgljkeohoffiaaZl
namespace Go.Proofs.Ytfgljkeohoffiaa
open Go.RowKit Go.Conc
section
variable {w w' : World} {x : RA} {own : Nat → Prop} {s : Bs}
theorem RB.counted (h : RB w x own s) (k : Int) : RB (w.setCell ⟨x.b, 2, none⟩ (.int .i64 k)) x own { s with cnt := k } := by
  have t : Tn (fun j => j = x.b) w (w.setCell ⟨x.b, 2, none⟩ (.int .i64 k)) := (Tn.refl (fun j => j = x.b) w).set (.inl rfl) _ _
  obtain ⟨Q, QC, hd, hq, hx⟩ := h.dv
  have c0 := h.c0
  have c1 := h.c1
  have c2 := h.c2
  refine ⟨by simp [go_sem, c0], by simp [go_sem, c1], World.cell?_setCell_same _ _ _ c2, fun j => by rw [World.frozen?_setCell]; exact h.f j, h.d, h.bg, ⟨Q, QC, fun i hi => (hd i hi).tn t (fun j hj e => ?_), hq, hx⟩, h.la, fun i hi => ?_, h.fo, h.ob, h.og, fun j hj => Nat.lt_of_lt_of_le (h.lt j hj) t.size, h.n8, h.fl, h.tk⟩
  · subst e
    rcases hj with e | e | ⟨h0, off, e⟩
    · exact h.bg e
    · exact (hq i _ hi e).2 rfl
    · exact h.la i _ off hi h0 e h.ob
  · obtain ⟨b, off, e, hc⟩ := h.fs i hi
    exact ⟨b, off, e, hc.tn t (fun q => h.fo b off (by omega) e (by rw [q]; exact h.ob))⟩
theorem RB.flt (h : RB w x own s) : (flt x.F (wrap64 (s.cnt + 1))).getD noF = s.flt := by
  unfold Bs.flt
  rw [h.fl.2, flt_all]
end
theorem RB.lts {w : World} {x : RA} {own : Nat → Prop} {s : Bs} (h : RB w x own s) : ∀ k, RBl x own s k → k < w.heap.size := fun k hk => by
  rcases hk with e | ⟨i, off, hi, h0, e⟩ | ⟨h0, off, e⟩
  · exact h.lt k e
  · obtain ⟨Q, QC, hd, _, _⟩ := h.dv
    obtain ⟨b, off2, e2, hc⟩ := (hd i hi).li 0 h0
    rw [e] at e2
    cases e2
    exact World.block_lt_of_cell? w _ hc.1
  · obtain ⟨b, off2, e2, hc⟩ := h.fs 0 h0
    rw [e] at e2
    cases e2
    exact World.block_lt_of_cell? w _ hc.1
theorem does_rd (s : Dv) (reg : Nat) (l : List Nat) (n : Nat) (h : (0 < l.length → n = 0) ∧ (l.length = 0 → 0 < n)) : rdS (s.writes reg l l.length) reg n = s.does reg l n ∧ rdT (s.writes reg l l.length) reg n = s.tells reg l n := by
  unfold rdS rdT Dv.does Dv.tells
  by_cases h0 : 0 < l.length
  · have e := h.1 h0
    subst e
    rw [if_neg (by omega), if_pos h0, if_neg (by omega), if_pos h0]
    exact ⟨rfl, rfl⟩
  · have e : l = [] := List.eq_nil_of_length_eq_zero (by omega)
    subst e
    have h1 : 0 < n := h.2 rfl
    rw [if_neg h0, if_neg h0]
    by_cases h4 : reg = 4
    · rw [if_pos ⟨h1, h4⟩, if_pos h4, if_pos ⟨h1, h4⟩, if_pos h4]
      exact ⟨rfl, rfl⟩
    · rw [if_neg (fun q => h4 q.2), if_neg h4, if_neg (fun q => h4 q.2), if_neg h4]
      exact ⟨rfl, rfl⟩
end Go.Proofs.Ytfgljkeohoffiaa
