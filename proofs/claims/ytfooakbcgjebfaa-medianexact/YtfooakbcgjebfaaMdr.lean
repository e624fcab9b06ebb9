/- The reference's middle: its numbers. -/
import Derived.Test.YtfooakbcgjebfaaMdMn
namespace Go.Proofs.Ytfooakbcgjebfaa
open Go.RowKit Go.Conc Go.Shelf Go.Lib
theorem cnt3 (a : Int) : ∀ l : List Int, l.countP (fun x => decide (x < a)) + l.countP (fun x => decide (x = a)) + l.countP (fun x => decide (a < x)) = l.length
  | [] => rfl
  | x :: t => by
    have ih := cnt3 a t
    simp only [List.countP_cons, List.length_cons, decide_eq_true_eq]
    rcases Int.lt_trichotomy x a with h | h | h
    · rw [if_pos h, if_neg (by omega), if_neg (by omega)]; omega
    · rw [if_neg (by omega), if_pos h, if_neg (by omega)]; omega
    · rw [if_neg (by omega), if_neg (by omega), if_pos h]; omega
theorem mid_iff {l : List Int} (h : 0 < l.length) (a : Int) : (l.countP (fun x => decide (x < a)) ≤ (l.length - 1) / 2 ∧ (l.length - 1) / 2 < l.countP (fun x => decide (x < a)) + l.countP (fun x => decide (x = a))) ↔ a = med l := by
  have h1 := med_low h
  have h2 := med_high h
  have h3 := cnt3 (med l) l
  have h4 := cnt3 a l
  constructor
  · rintro ⟨p, q⟩
    rcases Int.lt_trichotomy a (med l) with c | c | c
    · exfalso
      have : l.countP (fun x => decide (med l < x)) + l.countP (fun x => decide (x = med l)) ≤ l.countP (fun x => decide (a < x)) := by
        have e : l.countP (fun x => decide (med l < x)) + l.countP (fun x => decide (x = med l)) = l.countP (fun x => decide (med l ≤ x)) := by
          have : ∀ t : List Int, t.countP (fun x => decide (med l < x)) + t.countP (fun x => decide (x = med l)) = t.countP (fun x => decide (med l ≤ x)) := fun t => by
            induction t with
            | nil => rfl
            | cons y t ih =>
              simp only [List.countP_cons, decide_eq_true_eq]
              rcases Int.lt_trichotomy y (med l) with h | h | h
              · rw [if_neg (by omega), if_neg (by omega), if_neg (by omega)]; omega
              · rw [if_neg (by omega), if_pos h, if_pos (by omega)]; omega
              · rw [if_pos h, if_neg (by omega), if_pos (by omega)]; omega
          exact this l
        rw [e]
        exact List.countP_mono_left (fun x _ hx => by simp only [decide_eq_true_eq] at *; omega)
      omega
    · exact c
    · exfalso
      have : l.countP (fun x => decide (x < med l)) + l.countP (fun x => decide (x = med l)) ≤ l.countP (fun x => decide (x < a)) := by
        have e : l.countP (fun x => decide (x < med l)) + l.countP (fun x => decide (x = med l)) = l.countP (fun x => decide (x ≤ med l)) := by
          have : ∀ t : List Int, t.countP (fun x => decide (x < med l)) + t.countP (fun x => decide (x = med l)) = t.countP (fun x => decide (x ≤ med l)) := fun t => by
            induction t with
            | nil => rfl
            | cons y t ih =>
              simp only [List.countP_cons, decide_eq_true_eq]
              rcases Int.lt_trichotomy y (med l) with h | h | h
              · rw [if_pos h, if_neg (by omega), if_pos (by omega)]; omega
              · rw [if_neg (by omega), if_pos h, if_pos (by omega)]; omega
              · rw [if_neg (by omega), if_neg (by omega), if_neg (by omega)]; omega
          exact this l
        rw [e]
        exact List.countP_mono_left (fun x _ hx => by simp only [decide_eq_true_eq] at *; omega)
      omega
  · rintro rfl
    omega
theorem med_mem {l : List Int} (h : 0 < l.length) : med l ∈ l := (List.mergeSort_perm l leI).mem_iff.1 (List.mem_of_getElem? (med_at h))
def iLo (l : List Int) (a : Int) (k : Nat) : Nat := (l.take k).countP (fun x => decide (x < a))
def iEq (l : List Int) (a : Int) (k : Nat) : Nat := (l.take k).countP (fun x => decide (x = a))
theorem icnt_step {l : List Int} {k : Nat} {v : Int} {p : Int → Bool} (h : l[k]? = some v) : (l.take (k + 1)).countP p = (l.take k).countP p + if p v = true then 1 else 0 := by
  rw [List.take_add_one, h, List.countP_append]
  simp [List.countP_singleton]
theorem ic_le (l : List Int) (p : Int → Bool) (k : Nat) (h : l.length ≤ 8) : (l.take k).countP p ≤ 8 := by
  have h1 := List.countP_le_length (p := p) (l := l.take k)
  have h2 := List.length_take_le' k l
  omega
/-- a row of numbers -/
def IL (w : World) (a : Option Addr) (ls : List Int) : Prop := ∀ i x, ls[i]? = some x → ∃ b off, a = some ⟨b, off, none⟩ ∧ w.cell? ⟨b, off + i, none⟩ = some (.int .i64 x)
theorem IL.ext {w w' : World} {a : Option Addr} {ls : List Int} (h : IL w a ls) (x : Ext w w') : IL w' a ls := fun i v hi => by
  obtain ⟨b, off, e, c⟩ := h i v hi
  exact ⟨b, off, e, x.keepc c⟩
set_option maxRecDepth 20000 in
set_option maxHeartbeats 8000000 in
theorem rmiddle_any (ls : List Int) (a : Option Addr) (c : Nat) (w : World) (h : IL w a ls) (h0 : 0 < ls.length) (h8 : ls.length ≤ 8) :
    Calls Try.prog 16 #[.slice a ls.length c] w fun e w' => e = .returned (.int .i64 (med ls)) ∧ Quiet w w' := by
  have HV : Hid (IL w a ls) := h
  have H8 : Hid (ls.length ≤ 8) := h8
  have HM : Hid (med ls ∈ ls) := med_mem h0
  have HI : Hid (∀ b, (iLo ls b ls.length ≤ (ls.length - 1) / 2 ∧ (ls.length - 1) / 2 < iLo ls b ls.length + iEq ls b ls.length) ↔ b = med ls) := fun b => by
    have := mid_iff h0 b
    unfold iLo iEq
    rw [List.take_length]
    exact this
  obtain ⟨kk, ek, ek2⟩ : ∃ kk, Int.tdiv ((ls.length : Int) - 1) 2 = kk ∧ Hid (kk = (((ls.length - 1) / 2 : Nat) : Int)) := ⟨_, rfl, by
    show Int.tdiv ((ls.length : Int) - 1) 2 = _
    rw [show ((ls.length : Int) - 1) = ((ls.length - 1 : Nat) : Int) by omega]
    rfl⟩
  have k1 : -10 < kk := by have := ek2.out; omega
  have k2 : kk < 10 := by have := ek2.out; omega
  have l8 : (ls.length : Int) ≤ 8 := by omega
  have hq0 : Hid (Quiet w w) := ⟨0, rfl⟩
  have hb0 : Hid (∀ i', i' < 0 → ls[i']? ≠ some (med ls)) := fun i' hi => absurd hi (Nat.not_lt_zero _)
  clear h h0 h8
  go_enter Try.func16, Try.ntmps16
  go_wp2_with fail
  go_loopw [4] (fun v4 wr => ∃ i : Nat, i ≤ ls.length ∧ v4 = .int .i64 i ∧ Hid (∀ i', i' < i → ls[i']? ≠ some (med ls)) ∧ Hid (Quiet w wr)) (fun v4 _ => ls.length - (intOf v4).toNat)
  case atStart => exact ⟨0, Nat.zero_le _, rfl, hb0, hq0⟩
  case round =>
    obtain ⟨i, hi, rfl, hB, hQ0⟩ := hrel
    clear hb0 hq0 ek
    by_cases hil : i < ls.length
    · have hil2 : (i : Int) < (ls.length : Int) := by omega
      obtain ⟨y, hy⟩ : ∃ y, ls[i]? = some y := ⟨_, List.getElem?_eq_getElem hil⟩
      have HY : Hid (ls[i]? = some y) := hy
      generalize wr = wo at *
      have hq1 : Hid (Quiet w wo) := hQ0
      clear hQ0 hy
      go_wp2_with fail
      go_loopw [5, 6, 7] (fun v5 v6 v7 wx => ∃ j : Nat, j ≤ ls.length ∧ v5 = .int .i64 (iLo ls y j : Nat) ∧ v6 = .int .i64 (iEq ls y j : Nat) ∧ v7 = .int .i64 j ∧ Hid (Quiet w wx)) (fun _ _ v7 _ => ls.length - (intOf v7).toNat)
      case atStart => exact ⟨0, Nat.zero_le _, rfl, rfl, rfl, hq1⟩
      case round =>
        obtain ⟨j, hj, rfl, rfl, rfl, hQ⟩ := hrel
        clear hq1
        by_cases hjn : j < ls.length
        · have hjn2 : (j : Int) < (ls.length : Int) := by omega
          obtain ⟨z, hz⟩ : ∃ z, ls[j]? = some z := ⟨_, List.getElem?_eq_getElem hjn⟩
          have S1 : Hid (iLo ls y (j + 1) = iLo ls y j + if decide (z < y) = true then 1 else 0) := icnt_step hz
          have S3 : Hid (iEq ls y (j + 1) = iEq ls y j + if decide (z = y) = true then 1 else 0) := icnt_step hz
          have B1 : (iLo ls y j : Int) ≤ 8 := by have := ic_le ls (fun v => decide (v < y)) j H8.out; unfold iLo; omega
          have B3 : (iEq ls y j : Int) ≤ 8 := by have := ic_le ls (fun v => decide (v = y)) j H8.out; unfold iEq; omega
          generalize iLo ls y j = c1 at *
          generalize iEq ls y j = c3 at *
          obtain ⟨b, off, rfl, z1⟩ := (HV.out.ext hQ.out.ext) j z hz
          obtain ⟨b', off', eg, m1⟩ := (HV.out.ext hQ.out.ext) i y HY.out
          cases eg
          have hj8 : (j : Int) < 8 := by omega
          have HQ0 : Hid (Quiet w wr) := hQ
          clear hz hQ
          rcases Int.lt_trichotomy z y with hc | hc | hc
          · have t1 : decide (z < y) = true := decide_eq_true (by omega)
            have t3 : decide (z = y) = false := decide_eq_false (by omega)
            have t3' : (z == y) = false := by simpa using t3
            rw [t1, if_pos rfl] at S1
            rw [t3, if_neg (by decide)] at S3
            clear hc
            go_upto_region 10 with fail
            go_quiet (fail)
            have z1' : (wr.drewN nq).cell? ⟨b, off + j, none⟩ = some (.int .i64 z) := z1
            have m1' : (wr.drewN nq).cell? ⟨b, off + i, none⟩ = some (.int .i64 y) := m1
            have HQ1 : Hid (Quiet w (wr.drewN nq)) := by obtain ⟨t, e⟩ := HQ0.out; exact ⟨t + nq, by rw [e, World.drewN_drewN]⟩
            clear z1 m1 HQ0
            generalize wr.drewN nq = wq10 at *
            have z1 := z1'
            have m1 := m1'
            have HQ0 : Hid (Quiet w wq10) := HQ1
            clear z1' m1' HQ1
            go_upto_region 12 with fail
            go_quiet (fail)
            have z1' : (wq10.drewN nq).cell? ⟨b, off + j, none⟩ = some (.int .i64 z) := z1
            have m1' : (wq10.drewN nq).cell? ⟨b, off + i, none⟩ = some (.int .i64 y) := m1
            have HQ1 : Hid (Quiet w (wq10.drewN nq)) := by obtain ⟨t, e⟩ := HQ0.out; exact ⟨t + nq, by rw [e, World.drewN_drewN]⟩
            clear z1 m1 HQ0
            generalize wq10.drewN nq = wq12 at *
            have z1 := z1'
            have m1 := m1'
            have HQ0 : Hid (Quiet w wq12) := HQ1
            clear z1' m1' HQ1
            clear z1 m1
            go_wp2_with fail
            go_roundw
            case measure => simp [intOf]; omega
            case rel => exact ⟨j + 1, by omega, by rw [S1.out]; simp, by rw [S3.out]; simp, by simp, HQ0⟩
          · have t1 : decide (z < y) = false := decide_eq_false (by omega)
            have t3 : decide (z = y) = true := decide_eq_true (by omega)
            have t3' : (z == y) = true := by simpa using t3
            rw [t1, if_neg (by decide)] at S1
            rw [t3, if_pos rfl] at S3
            clear hc
            go_upto_region 10 with fail
            go_quiet (fail)
            have z1' : (wr.drewN nq).cell? ⟨b, off + j, none⟩ = some (.int .i64 z) := z1
            have m1' : (wr.drewN nq).cell? ⟨b, off + i, none⟩ = some (.int .i64 y) := m1
            have HQ1 : Hid (Quiet w (wr.drewN nq)) := by obtain ⟨t, e⟩ := HQ0.out; exact ⟨t + nq, by rw [e, World.drewN_drewN]⟩
            clear z1 m1 HQ0
            generalize wr.drewN nq = wq10 at *
            have z1 := z1'
            have m1 := m1'
            have HQ0 : Hid (Quiet w wq10) := HQ1
            clear z1' m1' HQ1
            go_upto_region 12 with fail
            go_quiet (fail)
            have z1' : (wq10.drewN nq).cell? ⟨b, off + j, none⟩ = some (.int .i64 z) := z1
            have m1' : (wq10.drewN nq).cell? ⟨b, off + i, none⟩ = some (.int .i64 y) := m1
            have HQ1 : Hid (Quiet w (wq10.drewN nq)) := by obtain ⟨t, e⟩ := HQ0.out; exact ⟨t + nq, by rw [e, World.drewN_drewN]⟩
            clear z1 m1 HQ0
            generalize wq10.drewN nq = wq12 at *
            have z1 := z1'
            have m1 := m1'
            have HQ0 : Hid (Quiet w wq12) := HQ1
            clear z1' m1' HQ1
            clear z1 m1
            go_wp2_with fail
            go_roundw
            case measure => simp [intOf]; omega
            case rel => exact ⟨j + 1, by omega, by rw [S1.out]; simp, by rw [S3.out]; simp, by simp, HQ0⟩
          · have t1 : decide (z < y) = false := decide_eq_false (by omega)
            have t3 : decide (z = y) = false := decide_eq_false (by omega)
            have t3' : (z == y) = false := by simpa using t3
            rw [t1, if_neg (by decide)] at S1
            rw [t3, if_neg (by decide)] at S3
            clear hc
            go_upto_region 10 with fail
            go_quiet (fail)
            have z1' : (wr.drewN nq).cell? ⟨b, off + j, none⟩ = some (.int .i64 z) := z1
            have m1' : (wr.drewN nq).cell? ⟨b, off + i, none⟩ = some (.int .i64 y) := m1
            have HQ1 : Hid (Quiet w (wr.drewN nq)) := by obtain ⟨t, e⟩ := HQ0.out; exact ⟨t + nq, by rw [e, World.drewN_drewN]⟩
            clear z1 m1 HQ0
            generalize wr.drewN nq = wq10 at *
            have z1 := z1'
            have m1 := m1'
            have HQ0 : Hid (Quiet w wq10) := HQ1
            clear z1' m1' HQ1
            go_upto_region 12 with fail
            go_quiet (fail)
            have z1' : (wq10.drewN nq).cell? ⟨b, off + j, none⟩ = some (.int .i64 z) := z1
            have m1' : (wq10.drewN nq).cell? ⟨b, off + i, none⟩ = some (.int .i64 y) := m1
            have HQ1 : Hid (Quiet w (wq10.drewN nq)) := by obtain ⟨t, e⟩ := HQ0.out; exact ⟨t + nq, by rw [e, World.drewN_drewN]⟩
            clear z1 m1 HQ0
            generalize wq10.drewN nq = wq12 at *
            have z1 := z1'
            have m1 := m1'
            have HQ0 : Hid (Quiet w wq12) := HQ1
            clear z1' m1' HQ1
            clear z1 m1
            go_wp2_with fail
            go_roundw
            case measure => simp [intOf]; omega
            case rel => exact ⟨j + 1, by omega, by rw [S1.out]; simp, by rw [S3.out]; simp, by simp, HQ0⟩
        · have hjn2 : ¬ (j : Int) < (ls.length : Int) := by omega
          have hje : j = ls.length := by omega
          subst hje
          have hiff := HI.out y
          have e2 := ek2.out
          have B1 : (iLo ls y ls.length : Int) ≤ 8 := by have := ic_le ls (fun v => decide (v < y)) ls.length H8.out; unfold iLo; omega
          have B3 : (iEq ls y ls.length : Int) ≤ 8 := by have := ic_le ls (fun v => decide (v = y)) ls.length H8.out; unfold iEq; omega
          by_cases hym : y = med ls
          · have h12 := hiff.2 hym
            have HYM : Hid (y = med ls) := hym
            obtain ⟨b', off', rfl, m1⟩ := (HV.out.ext hQ.out.ext) i y HY.out
            have G1 : (iLo ls y ls.length : Int) ≤ kk := by omega
            have G2 : kk < (iLo ls y ls.length : Int) + (iEq ls y ls.length : Int) := by omega
            generalize iLo ls y ls.length = c1 at *
            generalize iEq ls y ls.length = c3 at *
            clear hiff e2 hym h12 HI hB HM
            go_wp2_with fail
            go_ret
            exact ⟨ret_int HYM.out, hQ.out⟩
          · have h12 : ¬ ((iLo ls y ls.length : Int) ≤ kk ∧ kk < (iLo ls y ls.length : Int) + (iEq ls y ls.length : Int)) := fun h => hym (hiff.1 (by omega))
            have hB2 : Hid (∀ i', i' < i + 1 → ls[i']? ≠ some (med ls)) := fun i' h' => by
              by_cases h2 : i' < i
              · exact hB.out i' h2
              · have : i' = i := by omega
                subst this
                rw [HY.out]
                exact fun e => hym (Option.some.inj e)
            have HQ0 : Hid (Quiet w wr) := hQ
            by_cases G1 : (iLo ls y ls.length : Int) ≤ kk
            · have G2 : ¬ kk < (iLo ls y ls.length : Int) + (iEq ls y ls.length : Int) := by omega
              generalize iLo ls y ls.length = c1 at *
              generalize iEq ls y ls.length = c3 at *
              clear hiff e2 hym h12 HI hB HM hQ
              go_wp2_with fail
              go_roundw
              case measure => simp [intOf]; omega
              case rel => exact ⟨i + 1, by omega, by simp, hB2, HQ0⟩
            · generalize iLo ls y ls.length = c1 at *
              generalize iEq ls y ls.length = c3 at *
              clear hiff e2 hym h12 HI hB HM hQ
              go_wp2_with fail
              go_roundw
              case measure => simp [intOf]; omega
              case rel => exact ⟨i + 1, by omega, by simp, hB2, HQ0⟩
    · exfalso
      obtain ⟨i', hlt, he⟩ := List.getElem_of_mem HM.out
      exact hB.out i' (by omega) (by rw [List.getElem?_eq_getElem hlt, he])
end Go.Proofs.Ytfooakbcgjebfaa
