/- Tick of the reference's bus. -/
import Derived.Test.YtfgljkeohoffiaaZi
namespace Go.Proofs.Ytfgljkeohoffiaa
open Go.RowKit Go.Conc
/-- what a call has done to the reference's bus -/
def Rb (x : RA) (own : Nat → Prop) (s' : Bs) (w w' : World) : Prop := ∃ own', RB w' x own' s' ∧ Tn own w w' ∧ ∀ k, own' k → own k ∨ w.heap.size ≤ k
section
variable {w w1 w' : World} {x : RA} {own : Nat → Prop} {s : Bs}
theorem RB.congr (h : RB w x own s) {D : Nat → Dv} (e : ∀ i, i < s.n → D i = s.D i) : RB w x own { s with D := D } := by
  obtain ⟨Q, QC, h1, h2, h3⟩ := h.dv
  refine ⟨h.c0, h.c1, h.c2, h.f, h.d, h.bg, ⟨Q, QC, fun i hi => ?_, h2, h3⟩, fun i k off hi => ?_, h.fs, h.fo, h.ob, h.og, h.lt, h.n8, h.fl, fun i hi => ?_⟩
  · show RD w x.g (i * 9) (x.A i) (x.LC i) (Q i) (QC i) (D i)
    rw [e i hi]; exact h1 i hi
  · show 0 < (D i).list.length → _
    rw [e i hi]; exact h.la i k off hi
  · show (D i).tk ≤ 255
    rw [e i hi]; exact h.tk i hi
theorem Rb.refl (h : RB w x own s) : Rb x own s w w := ⟨own, h, Tn.refl _ _, fun _ o => .inl o⟩
theorem Rb.trans {own1 : Nat → Prop} {s' : Bs} (t : Tn own w w1) (ho : ∀ k, own1 k → own k ∨ w.heap.size ≤ k) (d : Rb x own1 s' w1 w') : Rb x own s' w w' := by
  obtain ⟨own', h, t', ho'⟩ := d
  refine ⟨own', h, t.trans t' (fun k hk o => ?_), fun k o => ?_⟩
  · rcases ho k o with q | q
    · exact q
    · omega
  · rcases ho' k o with q | q
    · exact ho k q
    · exact .inr (Nat.le_trans t.size q)
theorem Rb.congr {s1 : Bs} {D : Nat → Dv} (d : Rb x own s1 w w') (e : ∀ i, i < s1.n → D i = s1.D i) : Rb x own { s1 with D := D } w w' := by
  obtain ⟨own', h, t, ho⟩ := d
  exact ⟨own', h.congr e, t, ho⟩
/-- devices up to i have ticked k + 1 times, the others k times -/
def mid (D : Nat → Dv) (k i : Nat) : Nat → Dv := fun j => if j < i then (D j).ticks (k + 1) else (D j).ticks k
theorem mid_at (D : Nat → Dv) (k i : Nat) : mid D k i i = (D i).ticks k := if_neg (Nat.lt_irrefl _)
theorem rtick_one {wr : World} {k i : Nat} (d : Rb x own { s with D := mid s.D k i } w wr) (hi : i < s.n) : Calls Try.prog 30 #[.pointer (some ⟨x.g, i * 9, none⟩)] wr fun e w' => (∃ v, e = .returned v) ∧ Hid (Rb x own { s with D := mid s.D k (i + 1) } w w') := by
  obtain ⟨own1, h, t, ho⟩ := d
  obtain ⟨Q, QC, h1, h2, h3⟩ := id h.dv
  have hd := h1 i hi
  have htk := h.tk i hi
  refine (rtick_any hd htk).mono ?_
  rintro e w' ⟨he, hr⟩
  obtain ⟨own', q1, q2, q3⟩ := h.turned h1 h2 h3 hi hr (tick_list _) (tick_le _ htk hd.n2.2)
  refine ⟨he, Rb.trans t ho (Rb.congr (s1 := { s with D := upd (mid s.D k i) i (mid s.D k i i).tick }) ⟨own', q1, q2, q3⟩ (D := mid s.D k (i + 1)) (fun j hj => ?_))⟩
  show mid s.D k (i + 1) j = upd (mid s.D k i) i (mid s.D k i i).tick j
  by_cases e : j = i
  · subst e
    rw [upd_at, mid_at]
    unfold mid
    rw [if_pos (by omega)]; rfl
  · rw [upd_ne _ _ e]
    unfold mid
    by_cases h4 : j < i
    · rw [if_pos h4, if_pos (by omega)]
    · rw [if_neg h4, if_neg (by omega)]
set_option maxRecDepth 20000 in
set_option maxHeartbeats 4000000 in
theorem rtick_b (h : RB w x own s) (n : Nat) (hn : n ≤ 1000) : Calls Try.prog 12 #[.pointer (some ⟨x.b, 0, none⟩), .int .i64 n] w fun e w' => (∃ v, e = .returned v) ∧ Rb x own (tickB s n) w w' := by
  have H0 : Hid (Rb x own { s with D := mid s.D 0 0 } w w) := (Rb.refl h).congr (fun i _ => by unfold mid; rw [if_neg (Nat.not_lt_zero _)]; rfl)
  have HG : Hid (0 < s.n → x.d = some ⟨x.g, 0, none⟩) := h.d
  have HT : Hid (∀ wr k i, Rb x own { s with D := mid s.D k i } w wr → i < s.n → Calls Try.prog 30 #[.pointer (some ⟨x.g, i * 9, none⟩)] wr fun e w' => (∃ v, e = .returned v) ∧ Hid (Rb x own { s with D := mid s.D k (i + 1) } w w')) := fun wr k i d hi => rtick_one d hi
  have HC : Hid (∀ wr k i, Rb x own { s with D := mid s.D k i } w wr → wr.cell? ⟨x.b, 0, none⟩ = some (.slice x.d s.n x.dc)) := fun wr k i ⟨_, h, _, _⟩ => h.c0
  have HN : Hid (∀ wr k, Rb x own { s with D := mid s.D k s.n } w wr → Rb x own { s with D := mid s.D (k + 1) 0 } w wr) := fun wr k d => d.congr (fun i hi => by
    show mid s.D (k + 1) 0 i = mid s.D k s.n i
    unfold mid
    rw [if_neg (Nat.not_lt_zero _), if_pos hi])
  have HE : Hid (∀ wr, Rb x own { s with D := mid s.D n 0 } w wr → Rb x own (tickB s n) w wr) := fun wr d => d.congr (fun i hi => by
    show tkTo s.D n s.n i = mid s.D n 0 i
    unfold mid tkTo
    rw [if_neg (Nat.not_lt_zero _), if_pos hi])
  have h8 := h.n8
  clear h
  obtain ⟨m, D, F, cnt⟩ := s
  simp only at h8 H0 HG HT HC HN
  obtain ⟨xb, xg, xdc, xd, xfa, xfc, xA, xLC, xF⟩ := x
  simp only at HG HC HT
  by_cases h0 : 0 < m
  · have hxd := HG.out h0
    subst hxd
    go_enter Try.func12, Try.ntmps12
    go_wp2_with fail
    go_loopw [4, 5] (fun k _ wr => ∃ t : Nat, t ≤ n ∧ k = .int .i64 t ∧ Hid (Rb ⟨xb, xg, xdc, some ⟨xg, 0, none⟩, xfa, xfc, xA, xLC, xF⟩ own ⟨m, mid D t 0, F, cnt⟩ w wr)) (fun k _ _ => n - (intOf k).toNat)
    case atStart => exact ⟨0, Nat.zero_le _, rfl, H0⟩
    case round =>
      obtain ⟨t, ht, rfl, hR⟩ := hrel
      clear H0
      by_cases hlt : t < n
      · have hlti : (t : Int) < (n : Int) := by omega
        go_wp2_with fail
        generalize wr = wb at *
        go_loopw [5] (fun i wr => ∃ j : Nat, j ≤ m ∧ i = .int .i64 j ∧ Hid (Rb ⟨xb, xg, xdc, some ⟨xg, 0, none⟩, xfa, xfc, xA, xLC, xF⟩ own ⟨m, mid D t j, F, cnt⟩ w wr)) (fun i _ => m - (intOf i).toNat)
        case atStart => exact ⟨0, Nat.zero_le _, rfl, hR⟩
        case round =>
          obtain ⟨j, hj, rfl, hR2⟩ := hrel
          clear hR
          have c0 := HC.out _ _ _ hR2.out
          by_cases hjm : j < m
          · have hjmi : (j : Int) < (m : Int) := by omega
            have HK := HT.out _ _ _ hR2.out hjm
            go_wp2_with (go_at_call 30; refine HK.mono ?_; rintro e w2 ⟨⟨u, rfl⟩, d2⟩)
            go_roundw
            case measure => simp [intOf]; omega
            case rel => exact ⟨j + 1, by omega, by simp, d2⟩
          · have hjmi : ¬ (j : Int) < (m : Int) := by omega
            have hjm2 : j = m := by omega
            subst hjm2
            have R3 : Hid (Rb ⟨xb, xg, xdc, some ⟨xg, 0, none⟩, xfa, xfc, xA, xLC, xF⟩ own ⟨j, mid D (t + 1) 0, F, cnt⟩ w wr) := HN.out _ _ hR2.out
            go_wp2_with fail
            go_roundw
            case measure => simp [intOf]; omega
            case rel => exact ⟨t + 1, by omega, by simp, R3⟩
      · have hlti : ¬ (t : Int) < (n : Int) := by omega
        have htn : t = n := by omega
        subst htn
        have R3 := HE.out _ hR.out
        go_wp2_with fail
        go_end0
        exact ⟨⟨_, rfl⟩, R3⟩
  · have hm0 : m = 0 := by omega
    subst hm0
    go_enter Try.func12, Try.ntmps12
    go_wp2_with fail
    go_loopw [4, 5] (fun k _ wr => ∃ t : Nat, t ≤ n ∧ k = .int .i64 t ∧ Hid (Rb ⟨xb, xg, xdc, xd, xfa, xfc, xA, xLC, xF⟩ own ⟨0, mid D t 0, F, cnt⟩ w wr)) (fun k _ _ => n - (intOf k).toNat)
    case atStart => exact ⟨0, Nat.zero_le _, rfl, H0⟩
    case round =>
      obtain ⟨t, ht, rfl, hR⟩ := hrel
      clear H0
      by_cases hlt : t < n
      · have hlti : (t : Int) < (n : Int) := by omega
        go_wp2_with fail
        generalize wr = wb at *
        go_loopw [5] (fun i wr => i = .int .i64 0 ∧ wr = wb) (fun _ _ => 0)
        case atStart => exact ⟨rfl, rfl⟩
        case round =>
          obtain ⟨rfl, hwb⟩ := hrel
          subst hwb
          have c0 := HC.out _ _ _ hR.out
          have R3 : Hid (Rb ⟨xb, xg, xdc, xd, xfa, xfc, xA, xLC, xF⟩ own ⟨0, mid D (t + 1) 0, F, cnt⟩ w wr) := HN.out _ _ hR.out
          go_wp2_with fail
          go_roundw
          case measure => simp [intOf]; omega
          case rel => exact ⟨t + 1, by omega, by simp, R3⟩
      · have hlti : ¬ (t : Int) < (n : Int) := by omega
        have htn : t = n := by omega
        subst htn
        have R3 := HE.out _ hR.out
        go_wp2_with fail
        go_end0
        exact ⟨⟨_, rfl⟩, R3⟩
end
end Go.Proofs.Ytfgljkeohoffiaa
