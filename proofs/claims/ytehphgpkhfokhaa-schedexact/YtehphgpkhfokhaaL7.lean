/- What the statements of layer 7 share: a script, num, Within, EqNumbers. -/
import Derived.Test.YtehphgpkhfokhaaSi
namespace Go.Proofs.Ytehphgpkhfokhaa
open Go.RowKit Go.Conc
/-- an Act -/
def Act2 (w : World) (b o : Nat) (D N : Int) : Prop :=
  w.cell? ⟨b, o, none⟩ = some (.int .i64 D) ∧ w.cell? ⟨b, o + 1, none⟩ = some (.int .i64 N) ∧ (-9223372036854775808 ≤ D ∧ D ≤ 9223372036854775807) ∧ -9223372036854775808 ≤ N ∧ N ≤ 9223372036854775807
/-- a list of Act -/
def Acts (w : World) (a : Option Addr) (len : Nat) (D N : Nat → Int) : Prop :=
  ∀ i, i < len → ∃ b off, a = some ⟨b, off, none⟩ ∧ Act2 w b (off + i * 2) (D i) (N i)
theorem Acts.ext {w w' : World} {a : Option Addr} {len : Nat} {D N : Nat → Int} (h : Acts w a len D N) (hx : Ext w w') : Acts w' a len D N := by
  intro i hi
  obtain ⟨b, off, ha, h1, h2, h3⟩ := h i hi
  exact ⟨b, off, ha, hx.keepc h1, hx.keepc h2, h3⟩
theorem Acts.row {w : World} {b off len : Nat} {D N : Nat → Int} (h : Acts w (some ⟨b, off, none⟩) len D N) {k : Nat} (hk : k < len) : Act2 w b (off + k * 2) (D k) (N k) := by
  obtain ⟨b', off', ha, h⟩ := h k hk
  simp only [Option.some.injEq, Addr.mk.injEq, and_true] at ha
  obtain ⟨rfl, rfl⟩ := ha
  exact h
set_option maxHeartbeats 400000 in
theorem num_any (v : Int) (w : World) :
    Calls Try.prog 8 #[.int .i64 v] w fun e w' => e = .returned (.int .i64 v) ∧ w' = w := by
  go_enter Try.func8, Try.ntmps8
  go_wp2
  go_ret
  exact ⟨rfl, rfl⟩
theorem within_num (i : Int) (n : Nat) (hn : 0 < n) (h2 : n ≤ 1000) : ∃ q : Nat, q < n ∧ (IntKind.u64.wrap i) % (n : Int) = (q : Int) := by
  refine ⟨((IntKind.u64.wrap i) % (n : Int)).toNat, ?_, ?_⟩
  · have := Int.emod_lt_of_pos (IntKind.u64.wrap i) (b := (n : Int)) (by omega)
    omega
  · have := Int.emod_nonneg (IntKind.u64.wrap i) (b := (n : Int)) (by omega)
    omega
set_option maxHeartbeats 400000 in
theorem within_any (i : Int) (n : Nat) (hn : 0 < n) (h2 : n ≤ 1000) : ∃ q : Nat, q < n ∧ ∀ w, Calls Try.prog 11 #[.int .i64 i, .int .i64 n] w fun e w' => e = .returned (.int .i64 q) ∧ w' = w := by
  obtain ⟨q, hq, he⟩ := within_num i n hn h2
  refine ⟨q, hq, fun w => ?_⟩
  have hne : (n : Int) ≠ 0 := by omega
  have HE : Hid ((IntKind.u64.wrap i) % (n : Int) = (q : Int)) := he
  clear he
  go_enter Try.func11, Try.ntmps11
  go_wp2
  go_ret
  refine ⟨ret_int ?_, rfl⟩
  have h0 : 0 ≤ IntKind.u64.wrap i := by rw [IntKind.wrap_u64]; omega
  rw [Int.tmod_eq_emod_of_nonneg h0, HE.out]
  unfold wrap64; omega
set_option maxHeartbeats 2000000 in
theorem eq_nums {l : List Int} (u v : Value) (w : World) (hu : RdI w u l) (hv : RdI w v l) (hS : l.length ≤ 100000) :
    Calls Try.prog 21 #[u, v] w fun e w' => e = .returned (.bool true) ∧ Ext w w' := by
  obtain ⟨a, cap, rfl, ha⟩ := hu
  obtain ⟨b, cap', rfl, hb⟩ := hv
  have HA : Hid (∀ j, j < l.length → ∃ b off, a = some ⟨b, off, none⟩ ∧ w.cell? ⟨b, off + j, none⟩ = some (.int .i64 (gi l j))) := ha
  have HB : Hid (∀ j, j < l.length → ∃ b' off, b = some ⟨b', off, none⟩ ∧ w.cell? ⟨b', off + j, none⟩ = some (.int .i64 (gi l j))) := hb
  have HL : Hid (l.length ≤ 100000) := hS
  clear ha hb hS
  go_enter Try.func21, Try.ntmps21
  go_wp2_with fail
  go_loopw [5] (fun s5 wr => ∃ j : Nat, j ≤ l.length ∧ s5 = .int .i64 j ∧ Ext w wr) (fun s5 _ => l.length - (intOf s5).toNat)
  case atStart => exact ⟨0, Nat.zero_le _, rfl, Ext.refl _⟩
  case round =>
    obtain ⟨j, hj, rfl, hx⟩ := hrel
    by_cases hlt : j < l.length
    · have hjx : (j : Int) < (l.length : Int) := by omega
      obtain ⟨b1, o1, rfl, c0⟩ := HA.out j hlt
      obtain ⟨b2, o2, rfl, c2⟩ := HB.out j hlt
      have c0 := hx.keepc c0
      have c2 := hx.keepc c2
      have hL := HL.out
      generalize gi l j = t1 at *
      have hs63 : (j : Int) + 1 ≤ 100000 := by omega
      have HS63 : Hid ((j : Int) + 1 ≤ 100000) := hs63
      clear hL hs63
      go_upto_region 6 with fail
      go_quiet (fail)
      have X : Hid (Ext w (wr.drewN nq)) := hx.trans (drewN_ext nq)
      have hj2 : (j : Int) ≤ 9223372036854775806 := by have := HS63.out; omega
      go_wp2_with fail
      go_roundw
      case measure => simp [intOf]; omega
      case rel => exact ⟨j + 1, by omega, by simp, X.out⟩
    · have hjx : ¬ (j : Int) < (l.length : Int) := by omega
      go_wp2_with fail
      go_ret
      exact ⟨rfl, hx⟩
/-- a function that tells always the same numbers, and changes nothing -/
theorem fair_true {t b : Nat} {c : Nat → Nat} {v : Value} {n : Nat} {w : World} : Fair t b c v n (fun _ => False) (fun _ _ => True) w := ⟨fun _ k => k.elim, fun _ _ _ _ _ _ _ _ => trivial⟩
/-- what a run without a function's own memory has done -/
theorem Rn.plain {t b : Nat} {c : Nat → Nat} {v v' : Value} {s s' : St} {I : Nat → World → Prop} {w wr : World} {k : Nat} {r : Value} {l : List Int} (h : Rn t b c v v' s s' (fun _ => False) I w wr k r l) : Does t b c v v' s s' w wr :=
  ⟨h.tab, h.turn.mono (fun _ _ _ o => o.elim id False.elim), h.own, h.len⟩
end Go.Proofs.Ytehphgpkhfokhaa
