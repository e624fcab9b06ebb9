/- sched: isTask, Wake, Now, left. -/
import Derived.Test.YtehphgpkhfokhaaSb
namespace Go.Proofs.Ytehphgpkhfokhaa
open Go.RowKit Go.Conc
theorem ret_int {k : IntKind} {a b : Int} (h : a = b) : Ending.returned (.int k a) = .returned (.int k b) := by rw [h]
section
variable {t b : Nat} {c : Nat → Nat} {v : Value} {s : St}
theorem isTask_any (i : Int) (w : World) (h : Tab w t b c v s) :
    Calls Try.prog 35 #[.pointer (some ⟨t, 0, none⟩), .int .i64 i] w fun e w' => e = .returned (.bool (decide (0 ≤ i ∧ i < s.A.length))) ∧ w' = w := by
  have c0 := h.c0
  by_cases h1 : 0 ≤ i
  · by_cases h2 : i < s.A.length
    · rw [decide_eq_true ⟨h1, h2⟩]
      go_enter Try.func35, Try.ntmps35
      go_wp2_with fail
      go_ret
      exact ⟨by simp, rfl⟩
    · rw [decide_eq_false (by omega)]
      go_enter Try.func35, Try.ntmps35
      go_wp2_with fail
      go_ret
      exact ⟨by simp, rfl⟩
  · rw [decide_eq_false (by omega)]
    go_enter Try.func35, Try.ntmps35
    go_wp2_with fail
    go_ret
    exact ⟨by simp, rfl⟩
theorem now_any (w : World) (h : Tab w t b c v s) :
    Calls Try.prog 25 #[.pointer (some ⟨t, 0, none⟩)] w fun e w' => e = .returned (.int .i64 s.now) ∧ w' = w := by
  have c3 := h.c3
  go_enter Try.func25, Try.ntmps25
  go_wp2_with fail
  go_ret
  exact ⟨rfl, rfl⟩
theorem left_any (w : World) (h : Tab w t b c v s) :
    Calls Try.prog 42 #[.pointer (some ⟨t, 0, none⟩)] w fun e w' => e = .returned (.int .i64 (1099511627776 - s.now)) ∧ w' = w := by
  have c3 := h.c3
  have hn := h.nw
  go_enter Try.func42, Try.ntmps42
  go_wp2_with fail
  go_ret
  exact ⟨ret_int (by simp), rfl⟩
/-- a task awoken, if it is one -/
def wk (A : List Bool) (i : Int) : List Bool := if 0 ≤ i ∧ i < A.length then A.set i.toNat true else A
theorem wk_len (A : List Bool) (i : Int) : (wk A i).length = A.length := by unfold wk; split <;> simp
def werr (A : List Bool) (i : Int) : Int := if 0 ≤ i ∧ i < A.length then 0 else 1
/-- a signal is filled -/
theorem fill_tab (i : Nat) (w : World) (h : Tab w t b c v s) (hi : i < s.A.length) :
    Calls Try.prog 36 #[.chan (some (c i))] w fun e w' => (∃ u, e = .returned u) ∧ Does t b c v v s { s with A := s.A.set i true } w w' := by
  obtain ⟨c1, x, y, hc⟩ := h.ch i hi
  cases hu : up s.A i with
  | false =>
    rw [hu] at hc
    refine (fill_room w hc).mono ?_
    rintro e w' ⟨he, rfl⟩
    exact ⟨he, h.put hi true _ _, (Turn.refl _ w).chan (fun _ => .inr (.inr (.inl ⟨i, hi, rfl⟩))) _ _ _ _ _ _, fun _ k => .inl k, by simp⟩
  | true =>
    rw [hu] at hc
    refine (fill_full w hc).mono ?_
    rintro e w' ⟨he, rfl⟩
    refine ⟨he, ?_⟩
    rw [set_same hi hu]
    exact Does.refl h
set_option maxHeartbeats 400000 in
theorem wake_any (i : Int) (w : World) (h : Tab w t b c v s) :
    Calls Try.prog 13 #[.pointer (some ⟨t, 0, none⟩), .int .i64 i] w fun e w' => e = .returned (.int .i64 (werr s.A i)) ∧ Does t b c v v s { s with A := wk s.A i } w w' := by
  have HI := isTask_any i w h
  unfold wk werr
  by_cases hi : 0 ≤ i ∧ i < s.A.length
  · rw [if_pos hi, if_pos hi]
    rw [decide_eq_true hi] at HI
    obtain ⟨k, rfl⟩ : ∃ k : Nat, i = k := ⟨i.toNat, by omega⟩
    have hk : k < s.A.length := by omega
    have hk' : (k : Int) < (s.A.length : Int) := hi.2
    have HF := fill_tab k w h hk
    have c0 := h.c0
    have c1 := (h.ch k hk).1
    clear hi h
    go_enter Try.func13, Try.ntmps13
    go_wp2_with (first | (go_at_call 35; refine HI.mono ?_; rintro e wx ⟨rfl, hwx⟩; have hwy := hwx.symm; clear hwx; subst hwy) | (go_at_call 36; refine HF.mono ?_; rintro e w1 ⟨⟨u, rfl⟩, d1⟩))
    go_ret
    exact ⟨rfl, by simpa using d1⟩
  · rw [if_neg hi, if_neg hi]
    rw [decide_eq_false hi] at HI
    have HD : Hid (Does t b c v v s s w w) := Does.refl h
    clear h hi
    go_enter Try.func13, Try.ntmps13
    go_wp2_with (first | (go_at_call 35; refine HI.mono ?_; rintro e wx ⟨rfl, hwx⟩; have hwy := hwx.symm; clear hwx; subst hwy))
    go_ret
    exact ⟨rfl, HD.out⟩
/-- no signal below j is filled -/
theorem empty_up (i : Nat) (w : World) (h : Tab w t b c v s) (hi : i < s.A.length) (hu : up s.A i = true) :
    Calls Try.prog 44 #[.chan (some (c i))] w fun e w' => e = .returned (.bool true) ∧ Does t b c v v s { s with A := s.A.set i false } w w' := by
  obtain ⟨c1, x, y, hc⟩ := h.ch i hi
  rw [hu] at hc
  refine (empty_some w hc).mono ?_
  rintro e w' ⟨he, rfl⟩
  exact ⟨he, h.put hi false _ _, (Turn.refl _ w).chan (fun _ => .inr (.inr (.inl ⟨i, hi, rfl⟩))) _ _ _ _ _ _, fun _ k => .inl k, by simp⟩
theorem empty_down (i : Nat) (w : World) (h : Tab w t b c v s) (hi : i < s.A.length) (hu : up s.A i = false) :
    Calls Try.prog 44 #[.chan (some (c i))] w fun e w' => e = .returned (.bool false) ∧ w' = w := by
  obtain ⟨c1, x, y, hc⟩ := h.ch i hi
  rw [hu] at hc
  exact empty_none w hc
/-- the least one awake from j on -/
def loFrom (A : List Bool) : Nat → Nat → Option Nat
  | 0, _ => none
  | m + 1, j => if up A j then some j else loFrom A m (j + 1)
def lo (A : List Bool) : Option Nat := loFrom A A.length 0
theorem loFrom_step {A : List Bool} {n k : Nat} (hk : k < n) : loFrom A (n - k) k = if up A k then some k else loFrom A (n - (k + 1)) (k + 1) := by
  rw [show n - k = (n - (k + 1)) + 1 by omega]; rfl
theorem loFrom_none {A : List Bool} : ∀ (m j : Nat), loFrom A m j = none → ∀ i, j ≤ i → i < j + m → up A i = false
  | 0, j, _, i, h1, h2 => by omega
  | m + 1, j, h, i, h1, h2 => by
    unfold loFrom at h
    cases hu : up A j with
    | true => rw [hu] at h; simp at h
    | false =>
      rw [hu] at h
      by_cases e : i = j
      · subst e; exact hu
      · exact loFrom_none m (j + 1) (by simpa using h) i (by omega) (by omega)
theorem loFrom_some {A : List Bool} : ∀ (m j r : Nat), loFrom A m j = some r → j ≤ r ∧ r < j + m ∧ up A r = true ∧ ∀ i, j ≤ i → i < r → up A i = false
  | 0, j, r, h => by cases h
  | m + 1, j, r, h => by
    unfold loFrom at h
    cases hu : up A j with
    | true =>
      rw [hu] at h
      simp only [if_true, Option.some.injEq] at h
      subst h
      exact ⟨Nat.le_refl _, by omega, hu, fun i h1 h2 => by omega⟩
    | false =>
      rw [hu] at h
      obtain ⟨h1, h2, h3, h4⟩ := loFrom_some m (j + 1) r (by simpa using h)
      refine ⟨by omega, by omega, h3, fun i h5 h6 => ?_⟩
      by_cases e : i = j
      · subst e; exact hu
      · exact h4 i (by omega) h6
theorem lo_none {A : List Bool} (h : lo A = none) : ∀ i, i < A.length → up A i = false := fun i hi => loFrom_none _ _ h i (Nat.zero_le _) (by omega)
theorem lo_some {A : List Bool} {r : Nat} (h : lo A = some r) : r < A.length ∧ up A r = true ∧ ∀ i, i < r → up A i = false := by
  obtain ⟨_, h2, h3, h4⟩ := loFrom_some _ _ _ h
  exact ⟨by omega, h3, fun i hi => h4 i (Nat.zero_le _) hi⟩
set_option maxHeartbeats 1000000 in
theorem first_any (w : World) (h : Tab w t b c v s) :
    Calls Try.prog 37 #[.pointer (some ⟨t, 0, none⟩)] w fun e w' =>
      (lo s.A = none ∧ e = .returned (.tuple #[.int .i64 0, .bool false]) ∧ w' = w) ∨
      ∃ i, lo s.A = some i ∧ e = .returned (.tuple #[.int .i64 (i : Nat), .bool true]) ∧ i < s.A.length ∧ Does t b c v v s { s with A := s.A.set i false } w w' := by
  have c0 := h.c0
  have HH : Hid (Tab w t b c v s) := h
  have hn := h.n.2
  have HN : Hid (lo s.A = loFrom s.A (s.A.length - 0) 0) := rfl
  clear h
  go_enter Try.func37, Try.ntmps37
  go_wp2_with fail
  go_loopw [11] (fun s11 wr => ∃ k : Nat, k ≤ s.A.length ∧ s11 = .int .i64 k ∧ wr = w ∧ Hid (lo s.A = loFrom s.A (s.A.length - k) k)) (fun s11 _ => s.A.length - (intOf s11).toNat)
  case atStart => exact ⟨0, Nat.zero_le _, rfl, rfl, HN⟩
  case round =>
    obtain ⟨k, hk, rfl, hwr, hR⟩ := hrel
    have hwr' := hwr.symm
    clear hwr
    subst hwr'
    by_cases hlt : k < s.A.length
    · have hlt' : (k : Int) < (s.A.length : Int) := by omega
      have c1 := (HH.out.ch k hlt).1
      have hst := hR.out
      rw [loFrom_step hlt] at hst
      cases hu : up s.A k with
      | true =>
        have HE := empty_up k w HH.out hlt hu
        rw [hu, if_pos rfl] at hst
        have HST : Hid (lo s.A = some k) := hst
        clear hst hu hR HN
        go_wp2_with (go_at_call 44; refine HE.mono ?_; rintro e w1 ⟨rfl, d1⟩)
        exact bodyPost_ret (v := .tuple #[.int .i64 k, .bool true]) (by simp [results, Try.results37, go_sem]) rfl (.inr ⟨k, HST.out, rfl, hlt, d1⟩)
      | false =>
        have HE := empty_down k w HH.out hlt hu
        rw [hu] at hst
        have HST : Hid (lo s.A = loFrom s.A (s.A.length - (k + 1)) (k + 1)) := by show _ = _; simpa using hst
        clear hst hu hR HN
        go_wp2_with (go_at_call 44; refine HE.mono ?_; rintro e wx ⟨rfl, hwx⟩; have hwy := hwx.symm; clear hwx; subst hwy)
        go_roundw
        case measure => simp [intOf]; omega
        case rel => exact ⟨k + 1, by omega, by simp, by first | rfl | trivial, HST⟩
    · have hkn : ¬ (k : Int) < (s.A.length : Int) := by omega
      have HST : Hid (lo s.A = none) := by
        have := hR.out
        rw [show s.A.length - k = 0 by omega] at this
        exact this
      clear hR HN
      go_wp2_with fail
      exact bodyPost_ret (v := .tuple #[.int .i64 0, .bool false]) (by simp [results, Try.results37, go_sem]) rfl (.inl ⟨HST.out, rfl, rfl⟩)
end
end Go.Proofs.Ytehphgpkhfokhaa
