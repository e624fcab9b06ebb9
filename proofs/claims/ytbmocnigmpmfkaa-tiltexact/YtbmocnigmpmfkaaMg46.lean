/- Contract of the reference's May. The reference's whole numbers with a sign: Small; words of them. -/
import Derived.Test.YtbmocnigmpmfkaaMg10
import Derived.Deep.QuietTactic
import Derived.BigQuiet
import Derived.Test.YtbmocnigmpmfkaaRightm
namespace Go.Proofs.Ytbmocnigmpmfkaa
open Go.RowKit

set_option maxHeartbeats 400000 in
theorem may_any (v : Int) (w : World) :
    Calls Try.prog 59 #[.int .i64 v] w fun e w' => e = .returned (.bool (okW v)) ∧ w' = w := by
  by_cases h1 : -35184372088832 < v
  · by_cases h2 : v < 35184372088832
    · have e1 : Hid (true = okW v) := by show true = okW v; unfold okW; simp; omega
      go_enter Try.func59, Try.ntmps59
      go_wp2
      go_ret
      exact ⟨ret_bool (by rw [← e1.out]), rfl⟩
    · have e1 : Hid (false = okW v) := by show false = okW v; unfold okW; simp; omega
      go_enter Try.func59, Try.ntmps59
      go_wp2
      go_ret
      exact ⟨ret_bool (by rw [← e1.out]), rfl⟩
  · have e1 : Hid (false = okW v) := by show false = okW v; unfold okW; simp; omega
    go_enter Try.func59, Try.ntmps59
    go_wp2
    go_ret
    exact ⟨ret_bool (by rw [← e1.out]), rfl⟩
end Go.Proofs.Ytbmocnigmpmfkaa

namespace Go.Proofs.Ytbmocnigmpmfkaa
open Go.RowKit

def smallR (z : Int) : Int × Bool := if -9223372036854775808 ≤ z ∧ z < 9223372036854775808 then (z, true) else (0, false)

theorem big_len (n : Nat) (h : 1 < (Dig.digs 18446744073709551616 n).length) : 18446744073709551616 ≤ n := by
  apply Nat.le_of_not_lt
  intro hlt
  have := Dig.digs_length_le 18446744073709551616 (by omega) n 1 (by simpa using hlt)
  omega
theorem ret_two {a a' b b' : Int} (h : a = a') (k : b = b') : Ending.returned (.tuple #[.int .i64 a, .int .i64 b]) = .returned (.tuple #[.int .i64 a', .int .i64 b']) := by rw [h, k]
theorem ret_pair {a a' : Int} {b b' : Bool} (h : a = a') (k : b = b') : Ending.returned (.tuple #[.int .i64 a, .bool b]) = .returned (.tuple #[.int .i64 a', .bool b']) := by rw [h, k]

set_option maxHeartbeats 2000000 in
theorem small_any (z : Int) (r : Value) (w : World) (h : IsI w r z) (hs : SmallI z) :
    Calls Try.prog 58 #[r] w fun e w' => e = .returned (.tuple #[.int .i64 (smallR z).1, .bool (smallR z).2]) ∧ Ext w w' := by
  obtain ⟨u, rfl, hu⟩ := h
  obtain ⟨a, cap, rfl, gx⟩ := Row.shape hu
  have hz : (Dig.digs 18446744073709551616 z.natAbs).length = 0 → z = 0 := fun h0 => by have := Dig.digs_nil _ z.natAbs (by omega) (List.eq_nil_of_length_eq_zero h0); omega
  have hbig : 1 < (Dig.digs 18446744073709551616 z.natAbs).length → 18446744073709551616 ≤ z.natAbs := big_len _
  have hsm : (Dig.digs 18446744073709551616 z.natAbs).length = 1 → z.natAbs < 18446744073709551616 := fun h1 => by have := (Dig.length_bounds 18446744073709551616 z.natAbs 0 (by omega) h1).2; simpa using this
  have hl' : (Dig.digs 18446744073709551616 z.natAbs).length ≤ 1000 := hs.1
  have hd0 : (Dig.digs 18446744073709551616 z.natAbs).getD 0 0 = z.natAbs % 18446744073709551616 := by rw [Dig.digs_getD _ (by omega), Nat.pow_zero, Nat.div_one]
  clear hu hs
  generalize Dig.digs 18446744073709551616 z.natAbs = xs at *
  obtain ⟨l, hl⟩ : ∃ l, xs.length = l := ⟨_, rfl⟩
  rw [hl] at gx hz hbig hsm hl' ⊢
  by_cases h0 : l = 0
  · have e0 : z = 0 := hz h0
    have e1 : Hid (0 = (smallR z).1) := by show _ = _; rw [e0]; decide
    have e2 : Hid (true = (smallR z).2) := by show _ = _; rw [e0]; decide
    subst h0
    clear hz hl gx hbig hsm e0 hd0
    generalize decide (z < 0) = b at *
    go_enter Try.func58, Try.ntmps58
    go_wp2_with fail
    go_ret2
    exact ⟨ret_pair e1.out e2.out, (Ext.refl _).alloc _⟩
  · obtain ⟨b0, o0, rfl, hcell⟩ := gx (by omega)
    have hc0 := hcell 0 (by omega)
    rw [Nat.add_zero, hd0] at hc0
    have hne : ((l : Int) == 0) = false := by simp; omega
    have XS : Hid (Ext w (w.alloc (.cells #[.bool (decide (z < 0)), .slice (some ⟨b0, o0, none⟩) l cap] 63))) := (Ext.refl _).alloc _
    have hm2 : z.natAbs % 18446744073709551616 < 18446744073709551616 := Nat.mod_lt _ (by omega)
    obtain ⟨M, gM, gM1, gM2⟩ : ∃ M : Int, ((z.natAbs % 18446744073709551616 : Nat) : Int) = M ∧ 0 ≤ M ∧ M < 18446744073709551616 := ⟨_, rfl, by omega, by omega⟩
    rw [gM] at hc0
    have hcw := XS.out.kept hc0
    have hp : (0 : Int) < (l : Int) := by omega
    by_cases h1 : 1 < l
    · have hb := hbig h1
      have e1 : Hid (0 = (smallR z).1) := by show _ = _; unfold smallR; rw [if_neg (by omega)]
      have e2 : Hid (false = (smallR z).2) := by show _ = _; unfold smallR; rw [if_neg (by omega)]
      have hl1 : (1 : Int) < (l : Int) := by omega
      have hl1' : decide ((1 : Int) < (l : Int)) = true := decide_eq_true hl1
      clear hz hl hcell gx hbig hsm hb hm2 gM hd0 hc0 h0 h1
      generalize decide (z < 0) = b at *
      go_enter Try.func58, Try.ntmps58
      go_wp2_with fail
      go_ret2
      exact ⟨ret_pair e1.out e2.out, XS.out⟩
    · obtain rfl : l = 1 := by omega
      have hm := hsm rfl
      have hMz : Hid (M = (z.natAbs : Int)) := by show _ = _; rw [← gM, Nat.mod_eq_of_lt hm]
      by_cases hn : z < 0
      · rw [decide_eq_true hn] at hcw XS ⊢
        by_cases hb : 9223372036854775808 < M
        · have e1 : Hid (0 = (smallR z).1) := by have := hMz.out; show _ = _; unfold smallR; rw [if_neg (by omega)]
          have e2 : Hid (false = (smallR z).2) := by have := hMz.out; show _ = _; unfold smallR; rw [if_neg (by omega)]
          have hb' : decide (9223372036854775808 < M) = true := decide_eq_true hb
          clear hz hl hcell gx hbig hsm hm hm2 gM hd0 hc0 h0 h1 hn
          go_enter Try.func58, Try.ntmps58
          go_wp2_with fail
          go_ret2
          exact ⟨ret_pair e1.out e2.out, XS.out⟩
        · have e1 : Hid (z = (smallR z).1) := by have := hMz.out; show _ = _; unfold smallR; rw [if_pos (by omega)]
          have e2 : Hid (true = (smallR z).2) := by have := hMz.out; show _ = _; unfold smallR; rw [if_pos (by omega)]
          have hb' : decide (9223372036854775808 < M) = false := decide_eq_false hb
          have hv : Hid (IntKind.i64.wrap (IntKind.u64.wrap (0 - M)) = z) := by
            have := hMz.out
            show _ = _
            rw [IntKind.wrap_u64, IntKind.wrap_i64]
            omega
          have hv2 : Hid (wrap64 (IntKind.u64.wrap (-M)) = z) := by
            have := hMz.out
            show _ = _
            rw [IntKind.wrap_u64]
            unfold wrap64
            omega
          clear hz hl hcell gx hbig hsm hm hm2 gM hd0 hc0 h0 h1 hn
          go_enter Try.func58, Try.ntmps58
          go_wp2_with fail
          go_ret2
          exact ⟨ret_pair (by first | exact hv.out.trans e1.out | exact hv2.out.trans e1.out) e2.out, XS.out⟩
      · rw [decide_eq_false hn] at hcw XS ⊢
        by_cases hb : 9223372036854775808 ≤ M
        · have e1 : Hid (0 = (smallR z).1) := by have := hMz.out; show _ = _; unfold smallR; rw [if_neg (by omega)]
          have e2 : Hid (false = (smallR z).2) := by have := hMz.out; show _ = _; unfold smallR; rw [if_neg (by omega)]
          have hb' : decide (9223372036854775808 ≤ M) = true := decide_eq_true hb
          clear hz hl hcell gx hbig hsm hm hm2 gM hd0 hc0 h0 h1 hn
          go_enter Try.func58, Try.ntmps58
          go_wp2_with fail
          go_ret2
          exact ⟨ret_pair e1.out e2.out, XS.out⟩
        · have e1 : Hid (M = (smallR z).1) := by have := hMz.out; show _ = _; unfold smallR; rw [if_pos (by omega)]; show M = z; omega
          have e2 : Hid (true = (smallR z).2) := by have := hMz.out; show _ = _; unfold smallR; rw [if_pos (by omega)]
          have hb' : decide (9223372036854775808 ≤ M) = false := decide_eq_false hb
          have hb2 : M < 9223372036854775808 := by omega
          clear hz hl hcell gx hbig hsm hm hm2 gM hd0 hc0 h0 h1 hn
          go_enter Try.func58, Try.ntmps58
          go_wp2_with fail
          go_ret2
          exact ⟨ret_pair e1.out e2.out, XS.out⟩

def wordR (z : Int) : Int × Int := if okW z then (z, 0) else (0, 2)
set_option maxHeartbeats 2000000 in
theorem word_any (z : Int) (r : Value) (w : World) (h : IsI w r z) (hs : SmallI z) :
    Calls Try.prog 45 #[r] w fun e w' => e = .returned (.tuple #[.int .i64 (wordR z).1, .int .i64 (wordR z).2]) ∧ Ext w w' := by
  have HS : Hid (∀ w', Ext w w' → Calls Try.prog 58 #[r] w' fun e w'' => e = .returned (.tuple #[.int .i64 (smallR z).1, .bool (smallR z).2]) ∧ Ext w' w'') := fun w' hx => small_any z r w' (h.ext hx) hs
  obtain ⟨u, rfl, hu⟩ := h
  obtain ⟨a1, l1, c1, rfl⟩ := hu.isSlice
  clear hu hs
  generalize decide (z < 0) = b at *
  have XS : Hid (Ext w (w.alloc (.cells #[.bool b, .slice a1 l1 c1] 63))) := (Ext.refl _).alloc _
  by_cases hsm : -9223372036854775808 ≤ z ∧ z < 9223372036854775808
  · have e1 : smallR z = (z, true) := by unfold smallR; rw [if_pos hsm]
    rw [e1] at HS
    have HM : Hid (∀ w', Calls Try.prog 59 #[.int .i64 z] w' fun e w'' => e = .returned (.bool (okW z)) ∧ w'' = w') := fun w' => may_any z w'
    by_cases hw : okW z = true
    · rw [hw] at HM
      have e2 : Hid (z = (wordR z).1) := by show _ = _; unfold wordR; rw [if_pos hw]
      have e3 : Hid (0 = (wordR z).2) := by show _ = _; unfold wordR; rw [if_pos hw]
      clear e1 hw hsm
      go_enter Try.func45, Try.ntmps45
      go_wp2_with fail
      refine (HS.out _ XS.out).mono ?_
      rintro e w1 ⟨rfl, x1⟩
      go_wp2_with fail
      refine (HM.out _).mono ?_
      rintro e wx ⟨rfl, hwx⟩
      have hwy := hwx.symm
      clear hwx
      subst hwy
      go_wp2_with fail
      go_ret2
      exact ⟨ret_two e2.out e3.out, XS.out.trans x1⟩
    · have hw' : okW z = false := by simpa using hw
      rw [hw'] at HM
      have e2 : Hid (0 = (wordR z).1) := by show _ = _; unfold wordR; rw [if_neg hw]
      have e3 : Hid (2 = (wordR z).2) := by show _ = _; unfold wordR; rw [if_neg hw]
      clear e1 hw hw' hsm
      go_enter Try.func45, Try.ntmps45
      go_wp2_with fail
      refine (HS.out _ XS.out).mono ?_
      rintro e w1 ⟨rfl, x1⟩
      go_wp2_with fail
      refine (HM.out _).mono ?_
      rintro e wx ⟨rfl, hwx⟩
      have hwy := hwx.symm
      clear hwx
      subst hwy
      go_wp2_with fail
      go_ret2
      exact ⟨ret_two e2.out e3.out, XS.out.trans x1⟩
  · have e1 : smallR z = (0, false) := by unfold smallR; rw [if_neg hsm]
    rw [e1] at HS
    have hw : okW z = false := by unfold okW; simp; omega
    have e2 : Hid (0 = (wordR z).1) := by show _ = _; unfold wordR; rw [hw]; rfl
    have e3 : Hid (2 = (wordR z).2) := by show _ = _; unfold wordR; rw [hw]; rfl
    clear e1 hw hsm
    go_enter Try.func45, Try.ntmps45
    go_wp2_with fail
    refine (HS.out _ XS.out).mono ?_
    rintro e w1 ⟨rfl, x1⟩
    go_wp2_with fail
    go_ret2
    exact ⟨ret_two e2.out e3.out, XS.out.trans x1⟩
end Go.Proofs.Ytbmocnigmpmfkaa
