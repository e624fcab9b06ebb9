/- The reference's bus: one device has turned, its queue lies where it was. -/
import Derived.Test.YtfgljkeohoffiaaYd
namespace Go.Proofs.Ytfgljkeohoffiaa
open Go.RowKit Go.Conc
section
variable {w w' : World} {x : RA} {own : Nat → Prop} {s : Bs}
set_option maxHeartbeats 2000000 in
theorem RB.turned2 (h : RB w x own s) {Q : Nat → Option Addr} {QC : Nat → Nat} (h1 : ∀ i, i < s.n → RD w x.g (i * 9) (x.A i) (x.LC i) (Q i) (QC i) (s.D i)) (h2 : ∀ i k, i < s.n → QB (Q i) k → own k ∧ k ≠ x.b) (h3 : ∀ i j k, i < s.n → j < s.n → i ≠ j → QB (Q i) k → ¬ QB (Q j) k)
    {i : Nat} (hi : i < s.n) {t : Dv} {qa' : Option Addr} {qc' : Nat} (D : RD w' x.g (i * 9) (x.A i) (x.LC i) qa' qc' t) (F : Fr x.g (i * 9) (QB (Q i)) w w') (hq0 : ∀ k, QB qa' k → QB (Q i) k) (hs : t.list = (s.D i).list) (ht : t.tk ≤ 255) :
    RB w' x (fun k => own k ∨ QB qa' k) { s with D := upd s.D i t } := by
  have hq : ∀ k, QB qa' k → QB (Q i) k ∨ w.heap.size ≤ k := fun k e => .inl (hq0 k e)
  have h0 : 0 < s.n := by omega
  have htn : Tn own w w' := F.t.mono (fun k _ e => by
    rcases e with rfl | e
    · exact h.og h0
    · exact (h2 i k hi e).1)
  have hsz := htn.size
  have hb : ¬ (x.b = x.g ∨ QB (Q i) x.b) := fun e => e.elim h.bg (fun e => (h2 i x.b hi e).2 rfl)
  have hbl := h.lt x.b h.ob
  refine ⟨F.t.keepc hb h.c0, F.t.keepc hb h.c1, F.t.keepc hb h.c2, fun j => frozen_tn F.t hbl hb j (h.f j), h.d, h.bg, ⟨upd Q i qa', upd QC i qc', ?_, ?_, ?_⟩, ?_, ?_, ?_, .inl h.ob, fun _ => .inl (h.og h0), ?_, h.n8, h.fl, ?_⟩
  · intro j hj
    by_cases e : j = i
    · subst e
      show RD w' x.g (j * 9) (x.A j) (x.LC j) (upd Q j qa' j) (upd QC j qc' j) (upd s.D j t j)
      rw [upd_at, upd_at, upd_at]; exact D
    · show RD w' x.g (j * 9) (x.A j) (x.LC j) (upd Q i qa' j) (upd QC i qc' j) (upd s.D i t j)
      rw [upd_ne _ _ e, upd_ne _ _ e, upd_ne _ _ e]
      refine (h1 j hj).fr F (by omega) (fun k hk => ?_)
      rcases hk with hk | ⟨hl, off, hk⟩
      · exact h3 j i k hj hi e hk
      · exact fun e2 => h.la j k off hj hl hk (h2 i k hi e2).1
  · intro j k hj hk
    by_cases e : j = i
    · subst e
      rw [upd_at] at hk
      refine ⟨.inr hk, fun e => ?_⟩
      subst e
      rcases hq _ hk with q | q
      · exact (h2 j x.b hi q).2 rfl
      · omega
    · rw [upd_ne _ _ e] at hk
      exact ⟨.inl (h2 j k hj hk).1, (h2 j k hj hk).2⟩
  · intro j l k hj hl hne hk
    have hf : ∀ m, m < s.n → m ≠ i → QB (Q m) k → ¬ QB qa' k := fun m hm hmi hmk e => by
      rcases hq k e with q | q
      · exact h3 m i k hm hi hmi hmk q
      · have := (h1 m hm).qu.lt k hmk
        omega
    by_cases e : j = i
    · subst e
      rw [upd_at] at hk
      rw [upd_ne _ _ (fun e => hne e.symm)]
      exact fun hk2 => hf l hl (fun e => hne e.symm) hk2 hk
    · rw [upd_ne _ _ e] at hk
      by_cases e2 : l = i
      · subst e2
        rw [upd_at]
        exact hf j hj e hk
      · rw [upd_ne _ _ e2]
        exact h3 j l k hj hl hne hk
  · intro j k off hj hl hk
    have hlj : (upd s.D i t j).list = (s.D j).list := by
      by_cases e : j = i
      · subst e; rw [upd_at]; exact hs
      · rw [upd_ne _ _ e]
    have hl2 : 0 < (s.D j).list.length := by rw [← hlj]; exact hl
    have hko := h.la j k off hj hl2 hk
    rintro (e | e)
    · exact hko e
    · rcases hq k e with q | q
      · exact hko (h2 i k hi q).1
      · have := (h1 j hj).lt k (.inr (.inr ⟨hl2, off, hk⟩))
        omega
  · intro j hj
    obtain ⟨b, off, e, hc⟩ := h.fs j hj
    exact ⟨b, off, e, hc.tn htn (h.fo b off (by omega) e)⟩
  · intro k off hl hk
    rintro (e | e)
    · exact h.fo k off hl hk e
    · rcases hq k e with q | q
      · exact h.fo k off hl hk (h2 i k hi q).1
      · obtain ⟨b, off', e', hc⟩ := h.fs 0 hl
        rw [hk] at e'
        cases e'
        have := World.block_lt_of_cell? w ⟨k, off + 0 * 4, none⟩ hc.1
        simp only at this
        omega
  · rintro k (e | e)
    · exact Nat.lt_of_lt_of_le (h.lt k e) hsz
    · exact D.qu.lt k e
  · intro j hj
    show (upd s.D i t j).tk ≤ 255
    by_cases e : j = i
    · subst e; rw [upd_at]; exact ht
    · rw [upd_ne _ _ e]; exact h.tk j hj
theorem RB.turnedk (h : RB w x own s) {Q : Nat → Option Addr} {QC : Nat → Nat} (h1 : ∀ i, i < s.n → RD w x.g (i * 9) (x.A i) (x.LC i) (Q i) (QC i) (s.D i)) (h2 : ∀ i k, i < s.n → QB (Q i) k → own k ∧ k ≠ x.b) (h3 : ∀ i j k, i < s.n → j < s.n → i ≠ j → QB (Q i) k → ¬ QB (Q j) k)
    {i : Nat} (hi : i < s.n) {t : Dv} (d : Rdk x.g (i * 9) (x.A i) (x.LC i) (Q i) t w w') (hs : t.list = (s.D i).list) (ht : t.tk ≤ 255) : RB w' x own { s with D := upd s.D i t } := by
  obtain ⟨qa', qc', D, F, hq⟩ := d
  have r := h.turned2 h1 h2 h3 hi D F hq hs ht
  have e : (fun k => own k ∨ QB qa' k) = own := funext fun k => propext ⟨fun e => e.elim id (fun e => (h2 i k hi (hq k e)).1), .inl⟩
  rw [e] at r
  exact r
end
end Go.Proofs.Ytfgljkeohoffiaa
