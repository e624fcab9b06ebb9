/- What the statements of layer 6 share: a script, num, Within, wakes. -/
import Derived.Test.YtiallnpmgdjdfaaHu
namespace Go.Proofs.Ytiallnpmgdjdfaa
open Go.RowKit
theorem ret_int {k : IntKind} {a b : Int} (h : a = b) : Ending.returned (.int k a) = .returned (.int k b) := by rw [h]
/-- an Act -/
def Act3 (w : World) (b o : Nat) (D N S : Int) : Prop :=
  w.cell? ⟨b, o, none⟩ = some (.int .i64 D) ∧ w.cell? ⟨b, o + 1, none⟩ = some (.int .i64 N) ∧ w.cell? ⟨b, o + 2, none⟩ = some (.int .i64 S) ∧
    (-9223372036854775808 ≤ D ∧ D ≤ 9223372036854775807) ∧ (-9223372036854775808 ≤ N ∧ N ≤ 9223372036854775807) ∧ -9223372036854775808 ≤ S ∧ S ≤ 9223372036854775807
/-- a list of Act -/
def Acts (w : World) (a : Option Addr) (len : Nat) (D N S : Nat → Int) : Prop :=
  ∀ i, i < len → ∃ b off, a = some ⟨b, off, none⟩ ∧ Act3 w b (off + i * 3) (D i) (N i) (S i)
theorem Acts.ext {w w' : World} {a : Option Addr} {len : Nat} {D N S : Nat → Int} (h : Acts w a len D N S) (hx : Ext w w') : Acts w' a len D N S := by
  intro i hi
  obtain ⟨b, off, ha, h1, h2, h3, h4⟩ := h i hi
  exact ⟨b, off, ha, hx.keepc h1, hx.keepc h2, hx.keepc h3, h4⟩
theorem Acts.row {w : World} {b off len : Nat} {D N S : Nat → Int} (h : Acts w (some ⟨b, off, none⟩) len D N S) {k : Nat} (hk : k < len) : Act3 w b (off + k * 3) (D k) (N k) (S k) := by
  obtain ⟨b', off', ha, h⟩ := h k hk
  simp only [Option.some.injEq, Addr.mk.injEq, and_true] at ha
  obtain ⟨rfl, rfl⟩ := ha
  exact h
set_option maxHeartbeats 400000 in
theorem num_any (v : Int) (w : World) :
    Calls Try.prog 9 #[.int .i64 v] w fun e w' => e = .returned (.int .i64 v) ∧ w' = w := by
  go_enter Try.func9, Try.ntmps9
  go_wp2
  go_ret
  exact ⟨rfl, rfl⟩
theorem within_num (i : Int) (n : Nat) (hn : 0 < n) (h2 : n ≤ 1000) : ∃ q : Nat, q < n ∧ (IntKind.u64.wrap i) % (n : Int) = (q : Int) := by
  refine ⟨((IntKind.u64.wrap i) % (n : Int)).toNat, ?_, ?_⟩
  · have := Int.emod_lt_of_pos (IntKind.u64.wrap i) (b := (n : Int)) (by omega)
    omega
  · have := Int.emod_nonneg (IntKind.u64.wrap i) (b := (n : Int)) (by omega)
    omega
set_option maxHeartbeats 400000 in
theorem within_any (i : Int) (n : Nat) (hn : 0 < n) (h2 : n ≤ 1000) : ∃ q : Nat, q < n ∧ ∀ w, Calls Try.prog 7 #[.int .i64 i, .int .i64 n] w fun e w' => e = .returned (.int .i64 q) ∧ w' = w := by
  obtain ⟨q, hq, he⟩ := within_num i n hn h2
  refine ⟨q, hq, fun w => ?_⟩
  have hne : (n : Int) ≠ 0 := by omega
  have HE : Hid ((IntKind.u64.wrap i) % (n : Int) = (q : Int)) := he
  clear he
  go_enter Try.func7, Try.ntmps7
  go_wp2
  go_ret
  refine ⟨ret_int ?_, rfl⟩
  have h0 : 0 ≤ IntKind.u64.wrap i := by rw [IntKind.wrap_u64]; omega
  rw [Int.tmod_eq_emod_of_nonneg h0, HE.out]
  unfold wrap64; omega
theorem Goes.below {p : Nat} {v v' : Value} {a w w' : World} (k : Goes p v v' w w') (h : Ext a w) (hp : a.heap.size ≤ p) (hv : ∀ i, v.ownBlock = some i → a.heap.size ≤ i) : Ext a w' ∧ ∀ i, v'.ownBlock = some i → a.heap.size ≤ i := by
  refine ⟨k.1.below h (fun i o => ?_), fun i hi => ?_⟩
  · rcases o with o | o
    · omega
    · exact hv i o
  · rcases k.2 i hi with q | q
    · exact hv i q
    · have := h.size; omega
theorem eqT (n m x y : Int) (w : World) : (Op.equalIn 10000 Ea (.agg #[.int .i64 n, .int .i64 x]) (.agg #[.int .i64 m, .int .i64 y])).run Try.prog w = .ok (n == m && x == y) w := by
  by_cases hx : n = m <;> by_cases hy : x = y <;> simp [go_sem, hx, hy]
set_option maxRecDepth 20000 in
set_option maxHeartbeats 2000000 in
theorem wakes_any (w : World) : Calls Try.prog 20 #[] w fun e w' => e = .returned (.bool true) ∧ Ext w w' := by
  have HW := new_any w
  have HN : Hid (∀ v w', Calls Try.prog 9 #[.int .i64 v] w' fun e w'' => e = .returned (.int .i64 v) ∧ w'' = w') := num_any
  have H1 : Hid (∀ w1, Wh w1 w.heap.size (.slice none 0 0) [] 0 → Calls Try.prog 19 #[.pointer (some ⟨w.heap.size, 0, none⟩), .int .i64 3, .int .i64 10] w1 fun e w' => e = .returned (.int .i64 0) ∧ ∃ v', Wh w' w.heap.size v' [(3, 10, 1)] 1 ∧ Goes w.heap.size (.slice none 0 0) v' w1 w') := fun w1 h => set_any 3 10 w1 h (by omega) (by unfold okT; omega)
  have H2 : Hid (∀ w1 v, Wh w1 w.heap.size v [(3, 10, 1)] 1 → Calls Try.prog 15 #[.pointer (some ⟨w.heap.size, 0, none⟩), .int .i64 10] w1 fun e w' => ∃ g cap, e = .returned (.slice (some ⟨g, 0, none⟩) 1 cap) ∧ w'.cell? ⟨g, 0, none⟩ = some (.int .i64 3) ∧ w'.cell? ⟨g, 1, none⟩ = some (.int .i64 10) ∧ Turn (own w.heap.size v) w1 w') := fun w1 v h => by
    obtain ⟨xs, h, hw⟩ := h
    refine (take_raw 10 w1 h hw (by omega)).mono ?_
    rintro e w2 ⟨r, rfl, q1, _, q3⟩
    have hd : due 10 [((3 : Int), (10 : Int), (1 : Int))] = [(3, 10, 1)] := by decide
    rw [hd] at q1
    obtain ⟨g, cap, rfl, _, _⟩ := q1.form (by decide)
    exact ⟨g, cap, rfl, q1.cellAt 0 (by decide), q1.cellAt 1 (by decide), q3⟩
  have heq := eqT 3 3 10 10
  go_enter Try.func20, Try.ntmps20
  go_wp2_with (first | (go_at_call 6; refine HW.mono ?_; rintro e w1 ⟨rfl, r1, x1⟩) | (go_at_call 9; refine (HN.out _ _).mono ?_; rintro e wx ⟨rfl, hwx⟩; have hwy := hwx.symm; clear hwx; subst hwy) | (go_at_call 19; refine (H1.out _ r1).mono ?_; rintro e w2 ⟨rfl, v2, r2, t2⟩) | (go_at_call 15; refine (H2.out _ _ r2).mono ?_; rintro e w3 ⟨g, cap, rfl, c0, c1, t3⟩))
  go_ret
  obtain ⟨y1, y2⟩ := t2.below x1 (Nat.le_refl _) (fun i hi => by simp [Value.ownBlock] at hi)
  refine ⟨rfl, t3.below y1 (fun i o => ?_)⟩
  rcases o with o | o
  · omega
  · exact y2 i o
end Go.Proofs.Ytiallnpmgdjdfaa
