/- What the statements of layer 5 share: a script, num, Within, wakes. -/
import Derived.Test.YtblpdnpfhjnbgaaRi4
import Derived.Test.YtblpdnpfhjnbgaaRs4
namespace Go.Proofs.Ytblpdnpfhjnbgaa
open Go.RowKit Go.Conc

/-- an Act -/
def Act3 (w : World) (b o : Nat) (D N : Int) (S : ByteArray) : Prop :=
  w.cell? ⟨b, o, none⟩ = some (.int .i64 D) ∧ w.cell? ⟨b, o + 1, none⟩ = some (.int .i64 N) ∧ w.cell? ⟨b, o + 2, none⟩ = some (.string S) ∧
    (-9223372036854775808 ≤ D ∧ D ≤ 9223372036854775807) ∧ -9223372036854775808 ≤ N ∧ N ≤ 9223372036854775807
/-- a list of Act -/
def Acts (w : World) (a : Option Addr) (len : Nat) (D N : Nat → Int) (S : Nat → ByteArray) : Prop :=
  ∀ i, i < len → ∃ b off, a = some ⟨b, off, none⟩ ∧ Act3 w b (off + i * 3) (D i) (N i) (S i)
theorem Ext.keepc {w w' : World} (h : Ext w w') {b o : Nat} {v : Value} (hc : w.cell? ⟨b, o, none⟩ = some v) : w'.cell? ⟨b, o, none⟩ = some v := by
  have hlt : b < w.heap.size := World.block_lt_of_cell? w ⟨b, o, none⟩ hc
  rw [Below.cell (p := ⟨b, o, none⟩) h hlt]; exact hc
theorem Acts.ext {w w' : World} {a : Option Addr} {len : Nat} {D N : Nat → Int} {S : Nat → ByteArray} (h : Acts w a len D N S) (hx : Ext w w') : Acts w' a len D N S := by
  intro i hi
  obtain ⟨b, off, ha, h1, h2, h3, h4⟩ := h i hi
  exact ⟨b, off, ha, hx.keepc h1, hx.keepc h2, hx.keepc h3, h4⟩
theorem Acts.row {w : World} {b off len : Nat} {D N : Nat → Int} {S : Nat → ByteArray} (h : Acts w (some ⟨b, off, none⟩) len D N S) {k : Nat} (hk : k < len) : Act3 w b (off + k * 3) (D k) (N k) (S k) := by
  obtain ⟨b', off', ha, h⟩ := h k hk
  simp only [Option.some.injEq, Addr.mk.injEq, and_true] at ha
  obtain ⟨rfl, rfl⟩ := ha
  exact h
set_option maxHeartbeats 400000 in
theorem num_any (v : Int) (w : World) :
    Calls Try.prog 7 #[.int .i64 v] w fun e w' => e = .returned (.int .i64 v) ∧ w' = w := by
  go_enter Try.func7, Try.ntmps7
  go_wp2
  go_ret
  exact ⟨rfl, rfl⟩
theorem within_num (i : Int) (n : Nat) (hn : 0 < n) (h2 : n ≤ 256) : ∃ q : Nat, q < n ∧ (IntKind.u64.wrap i) % (n : Int) = (q : Int) := by
  refine ⟨((IntKind.u64.wrap i) % (n : Int)).toNat, ?_, ?_⟩
  · have := Int.emod_lt_of_pos (IntKind.u64.wrap i) (b := (n : Int)) (by omega)
    omega
  · have := Int.emod_nonneg (IntKind.u64.wrap i) (b := (n : Int)) (by omega)
    omega
set_option maxHeartbeats 400000 in
theorem within_any (i : Int) (n : Nat) (hn : 0 < n) (h2 : n ≤ 256) : ∃ q : Nat, q < n ∧ ∀ w, Calls Try.prog 9 #[.int .i64 i, .int .i64 n] w fun e w' => e = .returned (.int .i64 q) ∧ w' = w := by
  obtain ⟨q, hq, he⟩ := within_num i n hn h2
  refine ⟨q, hq, fun w => ?_⟩
  have hne : (n : Int) ≠ 0 := by omega
  have HE : Hid ((IntKind.u64.wrap i) % (n : Int) = (q : Int)) := he
  clear he
  go_enter Try.func9, Try.ntmps9
  go_wp2
  go_ret
  refine ⟨ret_int ?_, rfl⟩
  have h0 : 0 ≤ IntKind.u64.wrap i := by rw [IntKind.wrap_u64]; omega
  rw [Int.tmod_eq_emod_of_nonneg h0, HE.out]
  unfold wrap64; omega
set_option maxHeartbeats 1000000 in
theorem wakes_any (w : World) : Calls Try.prog 8 #[] w fun e w' => e = .returned (.bool true) ∧ Ext w w' := by
  have HW : Calls Try.prog 17 #[.int .i64 1] w fun e w' => ∃ p d c, e = .returned (.tuple #[.pointer (some ⟨p, 0, none⟩), .int .i64 0]) ∧ Ri w' p d c 1 [] ∧ w.heap.size ≤ p ∧ w.heap.size ≤ d ∧ w.heap.size ≤ c ∧ Ext w w' := new_i w 1 (by omega) (by omega)
  have HN : Hid (∀ v w', Calls Try.prog 7 #[.int .i64 v] w' fun e w'' => e = .returned (.int .i64 v) ∧ w'' = w') := num_any
  have H1 : Hid (∀ p d c w, Ri w p d c 1 [] → Calls Try.prog 21 #[.pointer (some ⟨p, 0, none⟩), .int .i64 1] w fun e w' => e = .returned (.tuple #[.int .i64 0, .bool false]) ∧ Ri w' p d c 1 [.int .i64 1] ∧ Turn p d c w w') := fun p d c w h => by simpa [pushed] using push_i w h 1
  have H2 : Hid (∀ p d c w, Ri w p d c 1 [.int .i64 1] → Calls Try.prog 21 #[.pointer (some ⟨p, 0, none⟩), .int .i64 2] w fun e w' => e = .returned (.tuple #[.int .i64 1, .bool true]) ∧ Ri w' p d c 1 [.int .i64 2] ∧ Turn p d c w w') := fun p d c w h => by simpa [pushed] using push_i w h 2
  have H3 : Hid (∀ p d c w, Ri w p d c 1 [.int .i64 2] → Calls Try.prog 23 #[.pointer (some ⟨p, 0, none⟩)] w fun e w' => e = .returned (.int .i64 1) ∧ ∃ n, w' = w.drewN n) := fun p d c w h => by simpa using len_l_i w h
  go_enter Try.func8, Try.ntmps8
  go_wp2_with (first | (go_at_call 17; refine HW.mono ?_; rintro e w1 ⟨p, d, c, rfl, r1, bp, bd, bc, x1⟩) | (go_at_call 7; refine (HN.out _ _).mono ?_; rintro e wx ⟨rfl, hwx⟩; have hwy := hwx.symm; clear hwx; subst hwy) | (go_at_call 21; refine (H1.out _ _ _ _ r1).mono ?_; rintro e w2 ⟨rfl, r2, t2⟩; clear r1) | (go_at_call 21; refine (H2.out _ _ _ _ r2).mono ?_; rintro e w3 ⟨rfl, r3, t3⟩; clear r2) | (go_at_call 23; refine (H3.out _ _ _ _ r3).mono ?_; rintro e w4 ⟨rfl, n4, rfl⟩))
  go_ret
  refine ⟨rfl, ?_⟩
  exact ((Turn.trans (t2.trans t3) (drewN_turn n4)).below x1 (Nat.le_refl _) bp bd bc)
end Go.Proofs.Ytblpdnpfhjnbgaa
