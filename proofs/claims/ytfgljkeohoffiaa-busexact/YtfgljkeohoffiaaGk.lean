/- bus: what may be handed in. -/
import Derived.Test.YtfgljkeohoffiaaGj
namespace Go.Proofs.Ytfgljkeohoffiaa
open Go.RowKit Go.Conc
set_option maxHeartbeats 400000 in
theorem within_b (x a b : Int) (w : World) : Calls Try.prog 31 #[.int .i64 x, .int .i64 a, .int .i64 b] w fun e w' => e = .returned (.bool (inn x a b)) ∧ w' = w := by
  by_cases h1 : a ≤ x
  · by_cases h2 : x ≤ b
    · have e : Hid (inn x a b = true) := inn_iff.2 ⟨h1, h2⟩
      go_enter Try.func31, Try.ntmps31
      go_wp2
      go_ret
      rw [e.out]; exact ⟨rfl, rfl⟩
    · have e : Hid (inn x a b = false) := inn_not.2 (fun h => h2 h.2)
      go_enter Try.func31, Try.ntmps31
      go_wp2
      go_ret
      rw [e.out]; exact ⟨rfl, rfl⟩
  · have e : Hid (inn x a b = false) := inn_not.2 (fun h => h1 h.1)
    go_enter Try.func31, Try.ntmps31
    go_wp2
    go_ret
    rw [e.out]; exact ⟨rfl, rfl⟩
/-- a fault -/
structure Flt where
  at_ : Int
  kind : Int
  idx : Int
  xor : Int
abbrev fv (f : Flt) : Value := .agg #[.int .i64 f.at_, .int .i64 f.kind, .int .i64 f.idx, .int .u8 f.xor]
abbrev fc (f : Flt) : Obj := .cells #[.int .i64 f.at_, .int .i64 f.kind, .int .i64 f.idx, .int .u8 f.xor] 76
def okF (f : Flt) : Bool := inn f.kind 1 3 && (decide (1 ≤ f.at_) && decide (0 ≤ f.idx))
set_option maxRecDepth 20000 in
set_option maxHeartbeats 2000000 in
theorem isfault_any (f : Flt) (w : World) : Calls Try.prog 45 #[fv f] w fun e w' => e = .returned (.bool (okF f)) ∧ Ext w w' := by
  have hx : Ext w (w.alloc (fc f)) := (Ext.refl w).alloc _
  obtain ⟨a, k, i, x⟩ := f
  by_cases hk : 1 ≤ k ∧ k ≤ 3
  · have e : Hid (okF ⟨a, k, i, x⟩ = (decide (1 ≤ a) && decide (0 ≤ i))) := by show _ = _; unfold okF; rw [inn_iff.2 hk]; rfl
    have hc : k = 1 ∨ k = 2 ∨ k = 3 := by omega
    by_cases h1 : 1 ≤ a <;> by_cases h2 : 0 ≤ i <;> rcases hc with rfl | rfl | rfl
    all_goals
      go_enter Try.func45, Try.ntmps45
      go_wp2_with fail
      go_ret
      rw [e.out]
      simp [h1, h2]
      exact hx
  · have e : Hid (okF ⟨a, k, i, x⟩ = false) := by show _ = _; unfold okF; rw [inn_not.2 hk]; rfl
    have n1 : k ≠ 1 := by omega
    have n2 : k ≠ 2 := by omega
    have n3 : k ≠ 3 := by omega
    clear hk
    go_enter Try.func45, Try.ntmps45
    go_wp2_with fail
    go_ret
    rw [e.out]
    exact ⟨rfl, hx⟩
/-- a transaction that may be -/
def okT (addr reg : Int) (len : Nat) (n : Int) : Bool := inn addr 0 127 && inn reg 0 5 && (if 0 < len then decide (len ≤ 8) && decide (n = 0) else inn n 1 128)
set_option maxRecDepth 20000 in
set_option maxHeartbeats 2000000 in
theorem istx_any (addr reg : Int) (a : Option Addr) (len c : Nat) (n : Int) (w : World) (hl : len ≤ maxLen) : Calls Try.prog 36 #[txv addr reg a len c n] w fun e w' => e = .returned (.bool (okT addr reg len n)) ∧ Ext w w' := by
  unfold maxLen at hl
  have hx : Ext w (w.alloc (txc addr reg a len c n)) := (Ext.refl w).alloc _
  have HX : Hid (∀ w, Calls Try.prog 48 #[.int .i64 addr] w fun e w' => e = .returned (.bool (inn addr 0 127)) ∧ w' = w) := isaddr_any _
  have HY : Hid (∀ w, Calls Try.prog 31 #[.int .i64 reg, .int .i64 0, .int .i64 5] w fun e w' => e = .returned (.bool (inn reg 0 5)) ∧ w' = w) := within_b _ _ _
  have HZ : Hid (∀ w, Calls Try.prog 31 #[.int .i64 n, .int .i64 1, .int .i64 128] w fun e w' => e = .returned (.bool (inn n 1 128)) ∧ w' = w) := within_b _ _ _
  have ex : Hid (okT addr reg len n = (inn addr 0 127 && inn reg 0 5 && (if 0 < len then decide (len ≤ 8) && decide (n = 0) else inn n 1 128))) := rfl
  cases h1 : inn addr 0 127 <;> rw [h1] at HX
  · have e : Hid (okT addr reg len n = false) := by show _ = _; rw [ex.out, h1]; rfl
    clear h1
    go_enter Try.func36, Try.ntmps36
    go_wp2_with (go_at_call 48; refine (HX.out _).mono ?_; rintro e w' ⟨rfl, rfl⟩)
    go_ret
    rw [e.out]
    exact ⟨rfl, hx⟩
  cases h2 : inn reg 0 5 <;> rw [h2] at HY
  · have e : Hid (okT addr reg len n = false) := by show _ = _; rw [ex.out, h1, h2]; rfl
    clear h1 h2
    go_enter Try.func36, Try.ntmps36
    go_wp2_with (first | (go_at_call 48; refine (HX.out _).mono ?_; rintro e w' ⟨rfl, rfl⟩) | (go_at_call_of 31 (Value.int IntKind.i64 5); refine (HY.out _).mono ?_; rintro e w' ⟨rfl, rfl⟩))
    go_ret
    rw [e.out]
    exact ⟨rfl, hx⟩
  by_cases h0 : 0 < len
  · have h0i : (0 : Int) < (len : Int) := by omega
    have e : Hid (okT addr reg len n = (decide (len ≤ 8) && decide (n = 0))) := by show _ = _; rw [ex.out, h1, h2, if_pos h0]; rfl
    clear h1 h2 ex HZ
    by_cases hn : n = 0
    · subst hn
      by_cases h8 : len ≤ 8
      · have h8i : (len : Int) ≤ 8 := by omega
        have e2 : Hid ((decide (len ≤ 8) && decide ((0 : Int) = 0)) = true) := by show _ = _; simp [h8]
        go_enter Try.func36, Try.ntmps36
        go_wp2_with (first | (go_at_call 48; refine (HX.out _).mono ?_; rintro e w' ⟨rfl, rfl⟩) | (go_at_call_of 31 (Value.int IntKind.i64 5); refine (HY.out _).mono ?_; rintro e w' ⟨rfl, rfl⟩))
        go_ret
        rw [e.out, e2.out]
        exact ⟨rfl, hx⟩
      · have h8i : ¬ (len : Int) ≤ 8 := by omega
        have e2 : Hid ((decide (len ≤ 8) && decide ((0 : Int) = 0)) = false) := by show _ = _; simp [h8]
        go_enter Try.func36, Try.ntmps36
        go_wp2_with (first | (go_at_call 48; refine (HX.out _).mono ?_; rintro e w' ⟨rfl, rfl⟩) | (go_at_call_of 31 (Value.int IntKind.i64 5); refine (HY.out _).mono ?_; rintro e w' ⟨rfl, rfl⟩))
        go_ret
        rw [e.out, e2.out]
        exact ⟨rfl, hx⟩
    · have e2 : Hid ((decide (len ≤ 8) && decide (n = 0)) = false) := by show _ = _; simp [hn]
      have hnb : (n == 0) = false := by simp [hn]
      by_cases h8 : len ≤ 8
      · have h8i : (len : Int) ≤ 8 := by omega
        go_enter Try.func36, Try.ntmps36
        go_wp2_with (first | (go_at_call 48; refine (HX.out _).mono ?_; rintro e w' ⟨rfl, rfl⟩) | (go_at_call_of 31 (Value.int IntKind.i64 5); refine (HY.out _).mono ?_; rintro e w' ⟨rfl, rfl⟩))
        go_ret
        rw [e.out, e2.out]
        exact ⟨rfl, hx⟩
      · have h8i : ¬ (len : Int) ≤ 8 := by omega
        go_enter Try.func36, Try.ntmps36
        go_wp2_with (first | (go_at_call 48; refine (HX.out _).mono ?_; rintro e w' ⟨rfl, rfl⟩) | (go_at_call_of 31 (Value.int IntKind.i64 5); refine (HY.out _).mono ?_; rintro e w' ⟨rfl, rfl⟩))
        go_ret
        rw [e.out, e2.out]
        exact ⟨rfl, hx⟩
  · have hl0 : len = 0 := by omega
    subst hl0
    have e : Hid (okT addr reg 0 n = inn n 1 128) := by show _ = _; rw [ex.out, h1, h2, if_neg h0]; rfl
    clear h1 h2 ex
    go_enter Try.func36, Try.ntmps36
    go_wp2_with (first | (go_at_call 48; refine (HX.out _).mono ?_; rintro e w' ⟨rfl, rfl⟩) | (go_at_call_of 31 (Value.int IntKind.i64 5); refine (HY.out _).mono ?_; rintro e w' ⟨rfl, rfl⟩) | (go_at_call_of 31 (Value.int IntKind.i64 128); refine (HZ.out _).mono ?_; rintro e w' ⟨rfl, rfl⟩))
    go_ret
    rw [e.out]
    exact ⟨rfl, hx⟩
end Go.Proofs.Ytfgljkeohoffiaa
