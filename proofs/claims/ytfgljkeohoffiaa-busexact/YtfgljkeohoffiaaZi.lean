/- The reference's bus in memory; find, Count; one device has turned. -/
import Derived.Test.YtfgljkeohoffiaaZh
namespace Go.Proofs.Ytfgljkeohoffiaa
open Go.RowKit Go.Conc
/-- where the reference's bus lies -/
structure RA where
  b : Nat
  g : Nat
  dc : Nat
  d : Option Addr
  fa : Option Addr
  fc : Nat
  A : Nat → Option Addr
  LC : Nat → Nat
  F : List Flt
/-- The reference's bus at x.b: own are the blocks that it writes. -/
structure RB (w : World) (x : RA) (own : Nat → Prop) (s : Bs) : Prop where
  c0 : w.cell? ⟨x.b, 0, none⟩ = some (.slice x.d s.n x.dc)
  c1 : w.cell? ⟨x.b, 1, none⟩ = some (.slice x.fa x.F.length x.fc)
  c2 : w.cell? ⟨x.b, 2, none⟩ = some (.int .i64 s.cnt)
  f : ∀ j, w.frozen? ⟨x.b, j, none⟩ = false
  d : 0 < s.n → x.d = some ⟨x.g, 0, none⟩
  bg : x.b ≠ x.g
  dv : ∃ (Q : Nat → Option Addr) (QC : Nat → Nat), (∀ i, i < s.n → RD w x.g (i * 9) (x.A i) (x.LC i) (Q i) (QC i) (s.D i)) ∧ (∀ i k, i < s.n → QB (Q i) k → own k ∧ k ≠ x.b) ∧ (∀ i j k, i < s.n → j < s.n → i ≠ j → QB (Q i) k → ¬ QB (Q j) k)
  la : ∀ i k off, i < s.n → 0 < (s.D i).list.length → x.A i = some ⟨k, off, none⟩ → ¬ own k
  fs : FRs w x.fa x.F
  fo : ∀ k off, 0 < x.F.length → x.fa = some ⟨k, off, none⟩ → ¬ own k
  ob : own x.b
  og : 0 < s.n → own x.g
  lt : ∀ k, own k → k < w.heap.size
  n8 : s.n ≤ 8
  fl : x.F.length ≤ 4096 ∧ s.F = fsts x.F x.F.length
  tk : ∀ i, i < s.n → (s.D i).tk ≤ 255
section
variable {w w' : World} {x : RA} {own : Nat → Prop} {s : Bs}
set_option maxHeartbeats 2000000 in
theorem rcount_any (h : RB w x own s) : Calls Try.prog 22 #[.pointer (some ⟨x.b, 0, none⟩)] w fun e w' => e = .returned (.int .i64 s.cnt) ∧ w' = w := by
  have c2 := h.c2
  clear h
  go_enter Try.func22, Try.ntmps22
  go_wp2_with fail
  go_ret
  exact ⟨rfl, rfl⟩
def fnum : Option Nat → Int
  | some i => i
  | none => -1
set_option maxRecDepth 20000 in
set_option maxHeartbeats 2000000 in
theorem rfind_any (h : RB w x own s) (addr : Int) : Calls Try.prog 35 #[.pointer (some ⟨x.b, 0, none⟩), .int .i64 addr] w fun e w' => e = .returned (.int .i64 (fnum (fnd s.D s.n addr))) ∧ w' = w := by
  have c0 := h.c0
  have h8 := h.n8
  obtain ⟨Q, QC, hd, _, _⟩ := h.dv
  have HD : Hid (∀ i, i < s.n → w.cell? ⟨x.g, i * 9, none⟩ = some (.int .i64 (s.D i).addr)) := fun i hi => (hd i hi).c0
  have HG : Hid (0 < s.n → x.d = some ⟨x.g, 0, none⟩) := h.d
  clear h hd
  obtain ⟨n, D, F, cnt⟩ := s
  simp only at c0 h8 HD HG ⊢
  go_enter Try.func35, Try.ntmps35
  by_cases h0 : 0 < n
  · have hxd := HG.out h0
    rw [hxd] at c0
    clear hxd
    go_wp2_with fail
    go_loopw [5] (fun i wr => ∃ k : Nat, k ≤ n ∧ i = .int .i64 k ∧ wr = w ∧ Hid (∀ j, j < k → (D j).addr ≠ addr)) (fun i _ => n - (intOf i).toNat)
    case atStart => exact ⟨0, Nat.zero_le _, rfl, rfl, fun j hj => absurd hj (Nat.not_lt_zero _)⟩
    case round =>
      obtain ⟨k, hk, rfl, hw, hR⟩ := hrel
      subst hw
      by_cases hlt : k < n
      · have hlti : (k : Int) < (n : Int) := by omega
        have k2 := HD.out k hlt
        by_cases ha : (D k).addr = addr
        · have e : Hid (fnd D n addr = some k) := fnd_some hR.out ha hlt
          rw [ha] at k2
          clear ha
          go_wp2_with fail
          go_ret
          rw [e.out]
          exact ⟨rfl, rfl⟩
        · have ha2 : ((D k).addr == addr) = false := by simpa using ha
          have R2 : Hid (∀ j, j < k + 1 → (D j).addr ≠ addr) := fun j hj => by
            by_cases ej : j = k
            · rw [ej]; exact ha
            · exact hR.out j (by omega)
          generalize (D k).addr = ad at *
          go_wp2_with fail
          go_roundw
          case measure => simp [intOf]; omega
          case rel => exact ⟨k + 1, by omega, by simp, trivial, R2⟩
      · have hlti : ¬ (k : Int) < (n : Int) := by omega
        have e : Hid (fnd D n addr = none) := fnd_none (fun j hj => hR.out j (by omega))
        go_wp2_with fail
        go_ret
        rw [e.out]
        exact ⟨rfl, rfl⟩
  · have hn0 : n = 0 := by omega
    subst hn0
    go_wp2_with fail
    go_loopw [5] (fun i wr => i = .int .i64 0 ∧ wr = w) (fun _ _ => 0)
    case atStart => exact ⟨rfl, rfl⟩
    case round =>
      obtain ⟨rfl, hw⟩ := hrel
      subst hw
      go_wp2_with fail
      go_ret
      exact ⟨rfl, rfl⟩
/-- one device has turned -/
theorem RB.turned (h : RB w x own s) {Q : Nat → Option Addr} {QC : Nat → Nat} (h1 : ∀ i, i < s.n → RD w x.g (i * 9) (x.A i) (x.LC i) (Q i) (QC i) (s.D i)) (h2 : ∀ i k, i < s.n → QB (Q i) k → own k ∧ k ≠ x.b) (h3 : ∀ i j k, i < s.n → j < s.n → i ≠ j → QB (Q i) k → ¬ QB (Q j) k)
    {i : Nat} (hi : i < s.n) {t : Dv} (d : Rd x.g (i * 9) (x.A i) (x.LC i) (Q i) t w w') (hs : t.list = (s.D i).list) (ht : t.tk ≤ 255) :
    ∃ own', RB w' x own' { s with D := upd s.D i t } ∧ Tn own w w' ∧ ∀ k, own' k → own k ∨ w.heap.size ≤ k := by
  obtain ⟨qa', qc', D, F, hq⟩ := d
  have h0 : 0 < s.n := by omega
  have htn : Tn own w w' := F.t.mono (fun k _ e => by
    rcases e with rfl | e
    · exact h.og h0
    · exact (h2 i k hi e).1)
  have hsz := htn.size
  have hb : ¬ (x.b = x.g ∨ QB (Q i) x.b) := fun e => e.elim h.bg (fun e => (h2 i x.b hi e).2 rfl)
  have hbl := h.lt x.b h.ob
  refine ⟨fun k => own k ∨ QB qa' k, ⟨F.t.keepc hb h.c0, F.t.keepc hb h.c1, F.t.keepc hb h.c2, fun j => frozen_tn F.t hbl hb j (h.f j), h.d, h.bg, ⟨upd Q i qa', upd QC i qc', ?_, ?_, ?_⟩, ?_, ?_, ?_, .inl h.ob, fun _ => .inl (h.og h0), ?_, h.n8, h.fl, ?_⟩, htn, fun k e => e.elim .inl (fun e => (hq k e).imp (fun e => (h2 i k hi e).1) id)⟩
  · intro j hj
    by_cases e : j = i
    · subst e
      show RD w' x.g (j * 9) (x.A j) (x.LC j) (upd Q j qa' j) (upd QC j qc' j) (upd s.D j t j)
      rw [upd_at, upd_at, upd_at]; exact D
    · show RD w' x.g (j * 9) (x.A j) (x.LC j) (upd Q i qa' j) (upd QC i qc' j) (upd s.D i t j)
      rw [upd_ne _ _ e, upd_ne _ _ e, upd_ne _ _ e]
      refine (h1 j hj).fr F (by omega) (fun k hk => ?_)
      rcases hk with hk | ⟨hl, off, hk⟩
      · exact h3 j i k hj hi e hk
      · exact fun e2 => h.la j k off hj hl hk (h2 i k hi e2).1
  · intro j k hj hk
    by_cases e : j = i
    · subst e
      rw [upd_at] at hk
      refine ⟨.inr hk, fun e => ?_⟩
      subst e
      rcases hq _ hk with q | q
      · exact (h2 j x.b hi q).2 rfl
      · omega
    · rw [upd_ne _ _ e] at hk
      exact ⟨.inl (h2 j k hj hk).1, (h2 j k hj hk).2⟩
  · intro j l k hj hl hne hk
    have hf : ∀ m, m < s.n → m ≠ i → QB (Q m) k → ¬ QB qa' k := fun m hm hmi hmk e => by
      rcases hq k e with q | q
      · exact h3 m i k hm hi hmi hmk q
      · have := (h1 m hm).qu.lt k hmk
        omega
    by_cases e : j = i
    · subst e
      rw [upd_at] at hk
      rw [upd_ne _ _ (fun e => hne e.symm)]
      exact fun hk2 => hf l hl (fun e => hne e.symm) hk2 hk
    · rw [upd_ne _ _ e] at hk
      by_cases e2 : l = i
      · subst e2
        rw [upd_at]
        exact hf j hj e hk
      · rw [upd_ne _ _ e2]
        exact h3 j l k hj hl hne hk
  · intro j k off hj hl hk
    have hlj : (upd s.D i t j).list = (s.D j).list := by
      by_cases e : j = i
      · subst e; rw [upd_at]; exact hs
      · rw [upd_ne _ _ e]
    have hl2 : 0 < (s.D j).list.length := by rw [← hlj]; exact hl
    have hko := h.la j k off hj hl2 hk
    rintro (e | e)
    · exact hko e
    · rcases hq k e with q | q
      · exact hko (h2 i k hi q).1
      · have := (h1 j hj).lt k (.inr (.inr ⟨hl2, off, hk⟩))
        omega
  · intro j hj
    obtain ⟨b, off, e, hc⟩ := h.fs j hj
    exact ⟨b, off, e, hc.tn htn (h.fo b off (by omega) e)⟩
  · intro k off hl hk
    rintro (e | e)
    · exact h.fo k off hl hk e
    · rcases hq k e with q | q
      · exact h.fo k off hl hk (h2 i k hi q).1
      · obtain ⟨b, off', e', hc⟩ := h.fs 0 hl
        rw [hk] at e'
        cases e'
        have := World.block_lt_of_cell? w ⟨k, off + 0 * 4, none⟩ hc.1
        simp only at this
        omega
  · rintro k (e | e)
    · exact Nat.lt_of_lt_of_le (h.lt k e) hsz
    · exact D.qu.lt k e
  · intro j hj
    show (upd s.D i t j).tk ≤ 255
    by_cases e : j = i
    · subst e; rw [upd_at]; exact ht
    · rw [upd_ne _ _ e]; exact h.tk j hj
end
end Go.Proofs.Ytfgljkeohoffiaa
