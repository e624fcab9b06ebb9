/- SchedTurns: Rising, and the functions that it hands over. -/
import Derived.Test.YtehphgpkhfokhaaUb
namespace Go.Proofs.Ytehphgpkhfokhaa
open Go.RowKit Go.Conc
set_option maxHeartbeats 2000000 in
theorem rising_any {l : List Int} (u : Value) (n : Int) (w : World) (hu : RdI w u l) (hr : ∀ j, j < l.length → 0 ≤ gi l j ∧ gi l j < n) (hp : ∀ j, 0 < j → j < l.length → gi l (j - 1) < gi l j) (hS : l.length ≤ 1000) :
    Calls Try.prog 29 #[u, .int .i64 0, .int .i64 n] w fun e w' => e = .returned (.bool true) ∧ Ext w w' := by
  obtain ⟨a, cap, rfl, ha⟩ := hu
  have HA : Hid (∀ j, j < l.length → ∃ b off, a = some ⟨b, off, none⟩ ∧ w.cell? ⟨b, off + j, none⟩ = some (.int .i64 (gi l j))) := ha
  have HL : Hid (l.length ≤ 1000) := hS
  have HR : Hid (∀ j, j < l.length → 0 ≤ gi l j ∧ gi l j < n) := hr
  have HP : Hid (∀ j, 0 < j → j < l.length → gi l (j - 1) < gi l j) := hp
  clear ha hS hr hp
  go_enter Try.func29, Try.ntmps29
  go_wp2_with fail
  go_loopw [7] (fun s7 wr => ∃ j : Nat, j ≤ l.length ∧ s7 = .int .i64 j ∧ Ext w wr) (fun s7 _ => l.length - (intOf s7).toNat)
  case atStart => exact ⟨0, Nat.zero_le _, rfl, Ext.refl _⟩
  case round =>
    obtain ⟨j, hj, rfl, hx⟩ := hrel
    by_cases hlt : j < l.length
    · have hjx : (j : Int) < (l.length : Int) := by omega
      obtain ⟨b1, o1, rfl, c0⟩ := HA.out j hlt
      have c0 := hx.keepc c0
      obtain ⟨r1, r2⟩ := HR.out j hlt
      have hj1 : (j : Int) ≤ 1000 := by have := HL.out; omega
      by_cases h0 : j = 0
      · subst h0
        have n1 : ¬ gi l 0 < 0 := by omega
        have n2 : ¬ gi l 0 ≥ n := by omega
        generalize gi l 0 = x at *
        rw [Nat.add_zero] at c0
        clear HA HR HP r1 r2
        go_upto_region 5 with fail
        have d1 : decide (x < 0) = false := decide_eq_false (by omega)
        have d2 : decide (n ≤ x) = false := decide_eq_false (by omega)
        go_quiet (fail)
        have X : Hid (Ext w (wr.drewN nq)) := hx.trans (drewN_ext nq)
        go_wp2_with fail
        go_roundw
        case measure => simp [intOf]; omega
        case rel => exact ⟨1, by omega, by simp, X.out⟩
      · have hj0 : (j : Int) > 0 := by omega
        obtain ⟨b2, o2, e2, c1⟩ := HA.out (j - 1) (by omega)
        simp only [Option.some.injEq, Addr.mk.injEq, and_true] at e2
        obtain ⟨rfl, rfl⟩ := e2
        have c1 := hx.keepc c1
        have hpj := HP.out j (by omega) hlt
        have ej : IntKind.i64.wrap ((j : Int) - 1) = ((j - 1 : Nat) : Int) := by rw [IntKind.wrap_i64]; omega
        have n1 : ¬ gi l j < 0 := by omega
        have n2 : ¬ gi l j ≥ n := by omega
        have n3 : ¬ gi l j ≤ gi l (j - 1) := by omega
        have hjm : ((j - 1 : Nat) : Int) < (l.length : Int) := by omega
        generalize gi l j = x at *
        generalize gi l (j - 1) = y at *
        obtain ⟨jm, hjm'⟩ : ∃ jm, jm = j - 1 := ⟨_, rfl⟩
        rw [← hjm'] at ej hjm c1
        clear HA HR HP r1 r2 hpj hjm'
        go_upto_region 5 with fail
        have d1 : decide (x < 0) = false := decide_eq_false (by omega)
        have d2 : decide (n ≤ x) = false := decide_eq_false (by omega)
        have d3 : decide (x ≤ y) = false := decide_eq_false (by omega)
        have d0 : decide (0 < j) = true := decide_eq_true (by omega)
        go_quiet (fail)
        have X : Hid (Ext w (wr.drewN nq)) := hx.trans (drewN_ext nq)
        go_wp2_with fail
        go_roundw
        case measure => simp [intOf]; omega
        case rel => exact ⟨j + 1, by omega, by simp, X.out⟩
    · have hjx : ¬ (j : Int) < (l.length : Int) := by omega
      go_wp2_with fail
      go_ret
      exact ⟨rfl, hx⟩
theorem asks_turns1 (n : Nat) (w : World) : Asks (.func (.func 28) #[] #[]) told7 (fun _ => False) (fun _ _ => True) n w := by
  intro k i wr _ _ _
  refine (ask_turns1 (i : Int) wr (R := fun a n cp x w' => a = none ∧ n = 0 ∧ cp = 0 ∧ x = 7 ∧ w' = wr) ?_).mono ?_
  · go_enter Try.func28, Try.ntmps28
    go_wp2_with fail
    exact bodyPost_ret (v := .tuple #[.slice none 0 0, .int .i64 7]) (by simp [results, Try.results28, go_sem]) rfl ⟨none, 0, 0, 7, rfl, rfl, rfl, rfl, rfl, rfl⟩
  · rintro e w' ⟨a, n, cp, x, rfl, rfl, rfl, rfl, rfl, rfl⟩
    exact ⟨none, 0, rfl, rdf_none _ _, trivial, Turn.refl _ _⟩
theorem asks_turns2 (n : Nat) (w : World) : Asks (.func (.func 30) #[] #[]) toldI (fun _ => False) (fun _ _ => True) n w := by
  intro k i wr _ _ _
  refine (ask_turns2 (i : Int) wr (R := fun a n cp x w' => a = some ⟨wr.heap.size, 0, none⟩ ∧ n = 1 ∧ cp = 1 ∧ x = 0 ∧ ∃ m, w' = (wr.alloc (.cells #[.int .i64 (i : Int)] 3)).drewN m) ?_).mono ?_
  · go_enter Try.func30, Try.ntmps30
    go_wp2_with fail
    exact bodyPost_ret (v := .tuple #[.slice (some ⟨wr.heap.size, 0, none⟩) 1 1, .int .i64 0]) (by simp [results, Try.results30, go_sem]) rfl ⟨_, 1, 1, 0, rfl, rfl, rfl, rfl, rfl, 0, rfl⟩
  · rintro e w' ⟨a, n, cp, x, rfl, rfl, rfl, rfl, rfl, m, rfl⟩
    refine ⟨_, 1, rfl, ⟨_, 1, rfl, fun j hj => ?_⟩, trivial, Turn.of_ext (((Ext.refl wr).alloc _).trans (drewN_ext m))⟩
    have hj0 : j = 0 := by simp at hj; omega
    subst hj0
    refine ⟨wr.heap.size, 0, rfl, by omega, ?_⟩
    exact (drewN_ext m).keepc (by simp [go_sem, gi])
end Go.Proofs.Ytehphgpkhfokhaa
