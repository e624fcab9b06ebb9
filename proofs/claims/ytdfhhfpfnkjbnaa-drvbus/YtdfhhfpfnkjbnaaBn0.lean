/- DrvBus: how a driver and its device go on, side by side: numbers. -/
import Derived.Test.YtdfhhfpfnkjbnaaEcb
import Derived.Test.YtdfhhfpfnkjbnaaDt
namespace Go.Proofs.Ytdfhhfpfnkjbnaa
open Go.RowKit Go.Conc
/-- the first n samples of a list that begins anew at its end -/
def cyc (L : List Raw) (n : Nat) : List Raw := (List.range n).map fun i => smp L (i % L.length)
theorem cyc_len (L : List Raw) (n : Nat) : (cyc L n).length = n := by simp [cyc]
theorem cyc_succ (L : List Raw) (n : Nat) : cyc L (n + 1) = cyc L n ++ [smp L (n % L.length)] := by simp [cyc, List.range_succ]
theorem cyc_at (L : List Raw) (n i : Nat) (h : i < n) : (cyc L n).getD i nought = smp L (i % L.length) := by
  simp [cyc, List.getD_eq_getElem?_getD, List.getElem?_range h]
/-- a device that is on, its samples told so far, the ticks that passed -/
structure Goes2 (L : List Raw) (per : Nat) (all : List Raw) (v : Dv) (t : Nat) : Prop where
  ad : v.addr = 16
  idn : v.id = 49
  li : v.list = L
  on : v.on = true
  pe : v.per = per
  tk : v.tk < per
  nx : v.next = (all.length + v.q.length) % L.length
  sq : all ++ v.q = cyc L (all.length + v.q.length)
  ti : per * (all.length + v.q.length) + v.tk = t
theorem goes_tick {L : List Raw} {per : Nat} {all : List Raw} {v : Dv} {t : Nat} (hL : 0 < L.length) (hq : v.q.length < 16) (h : Goes2 L per all v t) :
    Goes2 L per all v.tick (t + 1) ∧ v.q.length ≤ v.tick.q.length ∧ v.tick.q.length ≤ v.q.length + 1 := by
  obtain ⟨ad, idn, li, on, pe, tk, nx, sq, ti⟩ := h
  obtain ⟨vaddr, vid, vlist, vnext, von, vper, vtk, vq, vlost⟩ := v
  dsimp only at ad idn li on pe tk nx sq ti hq
  subst ad idn li on pe
  unfold Dv.tick
  dsimp only
  rw [if_pos rfl]
  by_cases h1 : vper ≤ vtk + 1
  · rw [if_pos h1]
    unfold Dv.meas
    dsimp only
    rw [if_neg (by omega), if_pos hq]
    have e : vtk + 1 = vper := by omega
    refine ⟨⟨rfl, rfl, rfl, rfl, rfl, ?_, ?_, ?_, ?_⟩, ?_, ?_⟩
    · dsimp only; omega
    · dsimp only
      rw [List.length_append, List.length_singleton, nx, Nat.mod_add_mod, ← Nat.add_assoc]
    · dsimp only
      rw [List.length_append, List.length_singleton, ← Nat.add_assoc, cyc_succ, ← sq, ← nx, List.append_assoc]
    · dsimp only
      rw [List.length_append, List.length_singleton, ← Nat.add_assoc, Nat.mul_add]
      omega
    · dsimp only; rw [List.length_append]; omega
    · dsimp only; rw [List.length_append]; exact Nat.le_refl _
  · rw [if_neg h1]
    refine ⟨⟨rfl, rfl, rfl, rfl, rfl, ?_, nx, sq, ?_⟩, Nat.le_refl _, Nat.le_succ _⟩
    · dsimp only; omega
    · dsimp only; omega
theorem goes_ticks {L : List Raw} {per : Nat} {all : List Raw} {v : Dv} {t : Nat} (hL : 0 < L.length) (hq : v.q.length < 15) (h : Goes2 L per all v t) :
    Goes2 L per all (v.ticks 2) (t + 2) ∧ v.q.length ≤ (v.ticks 2).q.length ∧ (v.ticks 2).q.length ≤ v.q.length + 2 := by
  obtain ⟨h1, h2, h3⟩ := goes_tick hL (by omega) h
  obtain ⟨g1, g2, g3⟩ := goes_tick hL (by omega) h1
  exact ⟨g1, Nat.le_trans h2 g2, by show (v.tick.tick).q.length ≤ _; omega⟩
theorem off_ticks {v : Dv} (h : v.on = false) : v.ticks 2 = v := by
  have e : v.tick = v := by unfold Dv.tick; rw [if_neg (by rw [h]; exact Bool.false_ne_true)]
  show v.tick.tick = v
  rw [e, e]
/-- some samples were taken out and told -/
theorem goes_told {L : List Raw} {per : Nat} {all : List Raw} {v : Dv} {t : Nat} (n : Nat) (hn : n ≤ v.q.length) (h : Goes2 L per all v t) : Goes2 L per (all ++ v.q.take n) { v with q := v.q.drop n } t := by
  obtain ⟨ad, idn, li, on, pe, tk, nx, sq, ti⟩ := h
  have e : (all ++ v.q.take n).length + (v.q.drop n).length = all.length + v.q.length := by
    rw [List.length_append, List.length_take, List.length_drop]; omega
  refine ⟨ad, idn, li, on, pe, tk, ?_, ?_, ?_⟩
  · dsimp only; rw [e]; exact nx
  · dsimp only; rw [e, List.append_assoc, List.take_append_drop]; exact sq
  · dsimp only; rw [e]; exact ti
/-- the bytes of the samples that a device holds -/
theorem brst_dat (q : List Raw) : ∀ n, n ≤ q.length → brst q n = dat (fun i => pk (smp q i)) n
  | 0, _ => rfl
  | n + 1, h => by
    show brst q n ++ (bq q n).l = dat (fun i => pk (smp q i)) n ++ (pk (smp q n)).l
    rw [brst_dat q n (by omega)]
    unfold bq
    rw [if_pos (by omega)]
theorem smps_pk (q : List Raw) (bad : Int) : ∀ n, n ≤ q.length → (∀ i, i < n → okR (smp q i) = true) → smps (fun i => pk (smp q i)) bad (List.range n) = (q.take n, bad)
  | 0, _, _ => rfl
  | n + 1, hn, h => by
    rw [List.range_succ, smps_snoc, smps_pk q bad n (by omega) (fun i hi => h i (by omega))]
    unfold smpStep
    rw [if_pos (pk_ok _).2, unp_pk _ (h n (by omega))]
    have : q.take (n + 1) = q.take n ++ [smp q n] := by
      rw [List.take_add_one]
      congr 1
      have hlt : n < q.length := by omega
      unfold smp
      rw [List.getD_eq_getElem?_getD, List.getElem?_eq_getElem hlt]
      rfl
    rw [this]
theorem chunk_dat (C : Nat → B8) (n : Nat) {i : Nat} (hi : i < n) : chunkB (dat C n) i = C i := b8_ext fun j hj => by
  rw [chunkB_at _ _ _ hj, dat_at C i j hj n hi]
/-- what is read of a device's samples -/
theorem smps_brst (q : List Raw) (bad : Int) (n : Nat) (hn : n ≤ q.length) (h : ∀ i, i < q.length → okR (smp q i) = true) : smps (chunkB (brst q n)) bad (List.range n) = (q.take n, bad) := by
  rw [brst_dat q n hn, smps_congr _ (fun i => pk (smp q i)) bad n (fun i hi => chunk_dat _ n hi)]
  exact smps_pk q bad n hn (fun i hi => h i (by omega))
theorem brst_byte (q : List Raw) (n : Nat) (hn : n ≤ q.length) (j : Nat) : 0 ≤ (brst q n).getD j 0 ∧ (brst q n).getD j 0 ≤ 255 := by
  rw [brst_dat q n hn]
  exact dat_byte _ n (fun i _ => (pk_ok _).1) j
end Go.Proofs.Ytdfhhfpfnkjbnaa
