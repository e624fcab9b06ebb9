/- cal: what may be handed in: a temperature, a raw sample, a matrix. -/
import Derived.Test.YtnilhamcojjloaaV2b
import Derived.Test.YtnilhamcojjloaaV6d
import Derived.Test.YtnilhamcojjloaaQ1b
import Derived.Test.YtnilhamcojjloaaHv
namespace Go.Proofs.Ytnilhamcojjloaa
open Go.RowKit Go.Shelf
def inn (x a b : Int) : Bool := decide (a ≤ x ∧ x ≤ b)
theorem inn_iff {x a b : Int} : inn x a b = true ↔ a ≤ x ∧ x ≤ b := by simp [inn]
theorem inn_not {x a b : Int} : inn x a b = false ↔ ¬ (a ≤ x ∧ x ≤ b) := by simp [inn]
set_option maxHeartbeats 400000 in
theorem istemp_any (x : Int) (w : World) : Calls Try.prog 29 #[.int .i64 x] w fun e w' => e = .returned (.bool (inn x (-128) 127)) ∧ w' = w := by
  by_cases h1 : ((-128) : Int) ≤ x
  · by_cases h2 : x ≤ (127 : Int)
    · have e : Hid (inn x (-128) 127 = true) := inn_iff.2 ⟨h1, h2⟩
      go_enter Try.func29, Try.ntmps29
      go_wp2
      go_ret
      rw [e.out]; exact ⟨rfl, rfl⟩
    · have e : Hid (inn x (-128) 127 = false) := inn_not.2 (fun h => h2 h.2)
      go_enter Try.func29, Try.ntmps29
      go_wp2
      go_ret
      rw [e.out]; exact ⟨rfl, rfl⟩
  · have e : Hid (inn x (-128) 127 = false) := inn_not.2 (fun h => h1 h.1)
    go_enter Try.func29, Try.ntmps29
    go_wp2
    go_ret
    rw [e.out]; exact ⟨rfl, rfl⟩
set_option maxHeartbeats 400000 in
theorem isword_any (x : Int) (w : World) : Calls Try.prog 45 #[.int .i64 x] w fun e w' => e = .returned (.bool (inn x (-32768) 32767)) ∧ w' = w := by
  by_cases h1 : ((-32768) : Int) ≤ x
  · by_cases h2 : x ≤ (32767 : Int)
    · have e : Hid (inn x (-32768) 32767 = true) := inn_iff.2 ⟨h1, h2⟩
      go_enter Try.func45, Try.ntmps45
      go_wp2
      go_ret
      rw [e.out]; exact ⟨rfl, rfl⟩
    · have e : Hid (inn x (-32768) 32767 = false) := inn_not.2 (fun h => h2 h.2)
      go_enter Try.func45, Try.ntmps45
      go_wp2
      go_ret
      rw [e.out]; exact ⟨rfl, rfl⟩
  · have e : Hid (inn x (-32768) 32767 = false) := inn_not.2 (fun h => h1 h.1)
    go_enter Try.func45, Try.ntmps45
    go_wp2
    go_ret
    rw [e.out]; exact ⟨rfl, rfl⟩
/-- a sample that may be -/
def okR (x y z t : Int) : Bool := inn x (-32768) 32767 && inn y (-32768) 32767 && inn z (-32768) 32767 && inn t (-128) 127
theorem okR_bounds {x y z t : Int} (h : okR x y z t = true) : (-32768 ≤ x ∧ x ≤ 32767) ∧ (-32768 ≤ y ∧ y ≤ 32767) ∧ (-32768 ≤ z ∧ z ≤ 32767) ∧ (-128 ≤ t ∧ t ≤ 127) := by
  unfold okR at h; simp only [Bool.and_eq_true, inn_iff] at h
  exact ⟨h.1.1.1, h.1.1.2, h.1.2, h.2⟩
theorem okR_of {x y z t : Int} (h1 : -32768 ≤ x ∧ x ≤ 32767) (h2 : -32768 ≤ y ∧ y ≤ 32767) (h3 : -32768 ≤ z ∧ z ≤ 32767) (h4 : -128 ≤ t ∧ t ≤ 127) : okR x y z t = true := by
  unfold okR; simp only [Bool.and_eq_true, inn_iff]; exact ⟨⟨⟨h1, h2⟩, h3⟩, h4⟩
set_option maxRecDepth 20000 in
set_option maxHeartbeats 4000000 in
theorem israw_any (x y z t : Int) (w : World) : Calls Try.prog 26 #[.agg #[.int .i64 x, .int .i64 y, .int .i64 z, .int .i64 t]] w fun e w' => e = .returned (.bool (okR x y z t)) ∧ Ext w w' := by
  have HX : Hid (∀ w, Calls Try.prog 45 #[.int .i64 x] w fun e w' => e = .returned (.bool (inn x (-32768) 32767)) ∧ w' = w) := isword_any x
  have HY : Hid (∀ w, Calls Try.prog 45 #[.int .i64 y] w fun e w' => e = .returned (.bool (inn y (-32768) 32767)) ∧ w' = w) := isword_any y
  have HZ : Hid (∀ w, Calls Try.prog 45 #[.int .i64 z] w fun e w' => e = .returned (.bool (inn z (-32768) 32767)) ∧ w' = w) := isword_any z
  have HT : Hid (∀ w, Calls Try.prog 29 #[.int .i64 t] w fun e w' => e = .returned (.bool (inn t (-128) 127)) ∧ w' = w) := istemp_any t
  have ex : Hid (okR x y z t = (inn x (-32768) 32767 && inn y (-32768) 32767 && inn z (-32768) 32767 && inn t (-128) 127)) := rfl
  generalize inn x (-32768) 32767 = p1 at *
  generalize inn y (-32768) 32767 = p2 at *
  generalize inn z (-32768) 32767 = p3 at *
  generalize inn t (-128) 127 = p4 at *
  generalize okR x y z t = R at *
  have hx : Ext w (w.alloc (.cells #[.int .i64 x, .int .i64 y, .int .i64 z, .int .i64 t] 29)) := (Ext.refl w).alloc _
  cases p1 <;> cases p2 <;> cases p3
  all_goals
    go_enter Try.func26, Try.ntmps26
    go_wp2_with (first | (go_at_call_of 45 (Value.int IntKind.i64 x); refine (HX.out _).mono ?_; rintro e wx ⟨rfl, hwx⟩; have hwy := hwx.symm; clear hwx; subst hwy) | (go_at_call_of 45 (Value.int IntKind.i64 y); refine (HY.out _).mono ?_; rintro e wx ⟨rfl, hwx⟩; have hwy := hwx.symm; clear hwx; subst hwy) | (go_at_call_of 45 (Value.int IntKind.i64 z); refine (HZ.out _).mono ?_; rintro e wx ⟨rfl, hwx⟩; have hwy := hwx.symm; clear hwx; subst hwy) | (go_at_call 29; refine (HT.out _).mono ?_; rintro e wx ⟨rfl, hwx⟩; have hwy := hwx.symm; clear hwx; subst hwy))
    go_ret
    rw [ex.out]
    exact ⟨by first | rfl | simp, hx⟩
/-- nine words -/
def okM (m : Nat → Int) : Bool := okW (m 0) && (okW (m 1) && (okW (m 2) && (okW (m 3) && (okW (m 4) && (okW (m 5) && (okW (m 6) && (okW (m 7) && okW (m 8))))))))
def chkM (m : Nat → Int) : Int := if okM m then 0 else 1
theorem okM_at {m : Nat → Int} (h : okM m = true) {k : Nat} (hk : k < 9) : okW (m k) = true := by
  unfold okM at h; simp only [Bool.and_eq_true] at h
  obtain ⟨h0, h1, h2, h3, h4, h5, h6, h7, h8⟩ := h
  match k, hk with
  | 0, _ => exact h0
  | 1, _ => exact h1
  | 2, _ => exact h2
  | 3, _ => exact h3
  | 4, _ => exact h4
  | 5, _ => exact h5
  | 6, _ => exact h6
  | 7, _ => exact h7
  | 8, _ => exact h8
theorem okM_of {m : Nat → Int} (h : ∀ k, k < 9 → okW (m k) = true) : okM m = true := by
  unfold okM
  rw [h 0 (by omega), h 1 (by omega), h 2 (by omega), h 3 (by omega), h 4 (by omega), h 5 (by omega), h 6 (by omega), h 7 (by omega), h 8 (by omega)]; rfl
theorem okM_no {m : Nat → Int} {k : Nat} (hk : k < 9) (h : okW (m k) = false) : okM m = false := by
  cases e : okM m
  · rfl
  · rw [okM_at e hk] at h; cases h
theorem ix9 (T : TypeId) (hT : T = 25) (m : Nat → Int) (k : Nat) (hk : k < 9) (w : World) : (Instr.index T (.agg #[.int .i64 (m 0), .int .i64 (m 1), .int .i64 (m 2), .int .i64 (m 3), .int .i64 (m 4), .int .i64 (m 5), .int .i64 (m 6), .int .i64 (m 7), .int .i64 (m 8)]) (.int .i64 (k : Int))).run Try.prog w = .ok (.int .i64 (m k)) w := by
  subst hT
  obtain rfl | rfl | rfl | rfl | rfl | rfl | rfl | rfl | rfl : k = 0 ∨ k = 1 ∨ k = 2 ∨ k = 3 ∨ k = 4 ∨ k = 5 ∨ k = 6 ∨ k = 7 ∨ k = 8 := by omega
  · kernel_rfl
  · kernel_rfl
  · kernel_rfl
  · kernel_rfl
  · kernel_rfl
  · kernel_rfl
  · kernel_rfl
  · kernel_rfl
  · kernel_rfl
set_option maxRecDepth 20000 in
set_option maxHeartbeats 4000000 in
theorem checkm_any (m : Nat → Int) (w : World) : Calls Try.prog 32 #[.agg #[.int .i64 (m 0), .int .i64 (m 1), .int .i64 (m 2), .int .i64 (m 3), .int .i64 (m 4), .int .i64 (m 5), .int .i64 (m 6), .int .i64 (m 7), .int .i64 (m 8)]] w fun e w' => e = .returned (.int .i64 (chkM m)) ∧ Ext w w' := by
  have HC : Hid (∀ v w', Calls Try.prog 52 #[.int .i64 v] w' fun e w'' => e = .returned (.int .i64 (chk v)) ∧ w'' = w') := check_any
  have HI : Hid (∀ (k : Nat) (hk : k < 9) (w : World), (Instr.index 25 (.agg #[.int .i64 (m 0), .int .i64 (m 1), .int .i64 (m 2), .int .i64 (m 3), .int .i64 (m 4), .int .i64 (m 5), .int .i64 (m 6), .int .i64 (m 7), .int .i64 (m 8)]) (.int .i64 (k : Int))).run Try.prog w = .ok (.int .i64 (m k)) w) := fun k hk w => ix9 _ rfl m k hk w
  have HB : Hid (∀ k, k < 9 → okW (m k) = false → chkM m = 1) := fun k hk h => by unfold chkM; rw [okM_no hk h]; rfl
  have HG : Hid ((∀ k, k < 9 → okW (m k) = true) → chkM m = 0) := fun h => by unfold chkM; rw [okM_of h]; rfl
  generalize chkM m = R at *
  go_enter Try.func32, Try.ntmps32
  go_wp2_with fail
  go_loopw [7] (fun i wr => ∃ k : Nat, k ≤ 9 ∧ i = .int .i64 (k : Int) ∧ Hid (∀ i, i < k → okW (m i) = true) ∧ Ext w wr) (fun i _ => 9 - (intOf i).toNat)
  case atStart => exact ⟨0, by omega, rfl, fun i hi => by omega, by repeat (first | with_reducible assumption | with_reducible exact Ext.refl _ | with_reducible refine Ext.drew ?_ | with_reducible refine Ext.drewN ?_ _ | with_reducible refine Ext.alloc ?_ _ | with_reducible refine Ext.set ?_ (by first | exact Nat.le_refl _ | (dsimp only; omega) | (simp; done)) _)⟩
  case round =>
    obtain ⟨k, hk, rfl, hok, hx⟩ := hrel
    by_cases hlt : k < 9
    · have kx : (k : Int) < 9 := by omega
      have hi := HI.out k hlt
      cases hc : okW (m k)
      · have e0 : chk (m k) = 1 := by unfold chk; rw [hc]; rfl
        have e1 : R = 1 := HB.out k hlt hc
        subst e1
        clear HB HG HI hc hok
        generalize m k = mk at *
        go_wp2_with (go_at_call 52; refine (HC.out _ _).mono ?_; rintro e wx ⟨rfl, hwx⟩; have hwy := hwx.symm; clear hwx; subst hwy)
        go_ret
        exact ⟨rfl, hx⟩
      · have e0 : chk (m k) = 0 := by unfold chk; rw [hc]; rfl
        have H1 : Hid (∀ i, i < k + 1 → okW (m i) = true) := fun i hi => by
          rcases Nat.lt_or_ge i k with h | h
          · exact hok.out i h
          · obtain rfl : i = k := by omega
            exact hc
        clear HB HG HI hc hok
        have hi : Hid _ := hi
        have e0 : Hid _ := e0
        have hi := hi.out
        have e0 := e0.out
        generalize m k = mk at hi e0
        go_wp2_with (go_at_call 52; refine (HC.out _ _).mono ?_; rintro e wx ⟨rfl, hwx⟩; have hwy := hwx.symm; clear hwx; subst hwy)
        go_roundw
        case rel => exact ⟨k + 1, by omega, by go_num, H1, hx⟩
        case measure => simp [intOf]; omega
    · have hk9 : k = 9 := by omega
      subst hk9
      have e1 : R = 0 := HG.out hok.out
      subst e1
      clear HB HG HI hok
      go_wp2_with fail
      go_ret
      exact ⟨rfl, hx⟩
end Go.Proofs.Ytnilhamcojjloaa
