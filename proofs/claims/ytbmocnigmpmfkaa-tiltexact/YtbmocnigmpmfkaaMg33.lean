/- The reference's whole numbers: short. Plain numbers: the division bit by bit. -/
import Derived.Test.YtbmocnigmpmfkaaBig8m
import Derived.Test.YtbmocnigmpmfkaaNum3m
import Derived.Test.YtbmocnigmpmfkaaBig7m
namespace Go.Proofs.Ytbmocnigmpmfkaa
open Go.RowKit

def bound32 : Int := 4294967296
set_option maxHeartbeats 2000000 in
theorem short_any (m d : Nat) (v : Value) (w : World) (hr : Row .u32 w v (Dig.digs 4294967296 m)) (hs : (Dig.digs 4294967296 m).length ≤ 2000) (hd : 0 < d) (hd2 : d < 4294967296) :
    Calls Try.prog 66 #[v, .int .u32 (d : Int)] w fun e w' => (∃ v', e = .returned (.tuple #[v', .int .u32 ((m % d : Nat) : Int)]) ∧ Row .u32 w' v' (Dig.digs 4294967296 (m / d))) ∧ Ext w w' := by
  have hX : Hid (∀ t, (Dig.digs 4294967296 m).getD t 0 = m / 4294967296 ^ t % 4294967296) := fun t => Dig.digs_getD _ (by omega) t m
  have hlt : Hid (m < 4294967296 ^ (Dig.digs 4294967296 m).length) := by
    have := Dig.val_lt 4294967296 _ (Dig.okd 4294967296 m (by omega))
    rw [Dig.vald 4294967296 m (by omega)] at this
    exact this
  generalize Dig.digs 4294967296 m = xs at hr hs hX hlt
  obtain ⟨L, hL⟩ : ∃ L : Nat, Hid (xs.length = L) := ⟨_, rfl⟩
  have HC : Hid (∀ v w F, (∀ j, j < L → F j = m / d / 4294967296 ^ j % 4294967296) → Row .u32 w v ((List.range L).map F) → Calls Try.prog 70 #[v] w fun e w' => (∃ v', e = .returned v' ∧ Row .u32 w v' (Dig.digs 4294967296 (m / d))) ∧ w' = w) := by
    intro v w F hF hr
    have e : (List.range L).map F = Dig.digN 4294967296 (m / d) L := by
      unfold Dig.digN
      apply List.map_congr_left
      intro j hj
      exact hF j (List.mem_range.1 hj)
    rw [e] at hr
    have h := cut_any _ v w hr (Dig.digN_ok _ _ _ (by omega))
    rw [Dig.digN_done _ _ _ (by
      have := hlt.out
      rw [hL.out] at this
      exact Nat.lt_of_le_of_lt (Nat.div_le_self _ _) this)] at h
    exact h
  have R0 : Hid (m / 4294967296 ^ xs.length % d = 0) := by
    show _ = _
    rw [Nat.div_eq_of_lt hlt.out, Nat.zero_mod]
  have R1 : Hid (m / 4294967296 ^ 0 % d = m % d) := by show _ = _; rw [Nat.pow_zero, Nat.div_one]
  obtain ⟨ax, cx, rfl, gx⟩ := hr.shape
  rw [hL.out] at R0
  have GX : Hid _ := gx
  rw [hL.out] at hs ⊢
  have hmk := run_make_row' (P := Try.prog) 102 104 (.int .u32 0) 4 Try.underlying102 Try.info32 rfl .i64 .i64 L (by omega) (by omega)
  obtain ⟨D, gD, gD1, gD2⟩ : ∃ D : Int, (d : Int) = D ∧ 0 < D ∧ D < 4294967296 := ⟨_, rfl, by omega, by omega⟩
  have hD0 : (D == 0) = false := by simp; omega
  rw [gD]
  have ST : Hid (∀ t, (m / 4294967296 ^ (t + 1) % d * 4294967296 + m / 4294967296 ^ t % 4294967296) / d = m / d / 4294967296 ^ t % 4294967296 ∧ (m / 4294967296 ^ (t + 1) % d * 4294967296 + m / 4294967296 ^ t % 4294967296) % d = m / 4294967296 ^ t % d) := fun t => Dig.short_step m d t hd
  have RL : Hid (∀ t, m / 4294967296 ^ t % d < d) := fun t => Nat.mod_lt _ hd
  clear hr gx hlt
  go_enter Try.func66, Try.ntmps66
  go_wp2_with fail
  clear hmk
  go_loopw [7, 8] (fun r i wr => ∃ (t R : Nat) (F : Nat → Nat), t ≤ L ∧ i = .int .i64 ((t : Int) - 1) ∧ r = .int .u64 (R : Int) ∧ Hid (R = m / 4294967296 ^ t % d) ∧ Hid (∀ j, t ≤ j → j < L → F j = m / d / 4294967296 ^ j % 4294967296) ∧ wr.rowIs w.heap.size 104 L (f32 F) ∧ Ext w wr) (fun _ i _ => ((intOf i) + 1).toNat)
  case atStart => exact ⟨L, 0, fun _ => 0, Nat.le_refl _, rfl, rfl, R0.out.symm, fun j h1 h2 => by omega, World.rowIs_made _ _ _ _, (Ext.refl _).alloc _⟩
  case round =>
    obtain ⟨t, R, F, ht, rfl, rfl, hR, hF, hrow, hx⟩ := hrel
    cases t with
    | zero =>
      have hrw := row_of_is hrow (by omega)
      have HF : Hid (∀ j, j < L → F j = m / d / 4294967296 ^ j % 4294967296) := fun j hj => hF.out j (by omega) hj
      have hRl := RL.out 0
      rw [← hR.out] at hRl
      obtain ⟨r0, gr, gr1, gr2, gr3⟩ : ∃ r : Int, (R : Int) = r ∧ Hid (r = ((m % d : Nat) : Int)) ∧ 0 ≤ r ∧ r < 4294967296 := ⟨_, rfl, by show _ = _; rw [hR.out, R1.out], by omega, by omega⟩
      rw [gr]
      clear hR hF hrow gr hRl
      go_wp2_with fail
      refine (HC.out _ _ F HF.out hrw).mono ?_
      rintro e w4 ⟨⟨v3, rfl, hr3⟩, hw4⟩
      have hw4' := hw4.symm
      clear hw4
      subst hw4'
      clear hrw
      go_wp2_with fail
      go_ret2
      exact ⟨⟨_, by rw [← gr1.out]; rfl, hr3⟩, hx⟩
    | succ t =>
      obtain ⟨bx, ox, rfl, cx'⟩ := GX.out (by have := hL.out; omega)
      have hcx := (hx.lay).1 bx (ox + t) (cell_lt (cx' t (by have := hL.out; omega)))
      rw [cx' t (by have := hL.out; omega)] at hcx
      have et : ((t + 1 : Nat) : Int) - 1 = (t : Int) := by omega
      rw [et]
      have hXt := hX.out t
      rw [hXt] at hcx
      have hRl := RL.out (t + 1)
      rw [← hR.out] at hRl
      have hst := ST.out t
      rw [← hR.out] at hst
      have hxl : m / 4294967296 ^ t % 4294967296 < 4294967296 := Nat.mod_lt _ (by omega)
      obtain ⟨x, hxx⟩ : ∃ x : Nat, m / 4294967296 ^ t % 4294967296 = x := ⟨_, rfl⟩
      rw [hxx] at hcx hst hxl
      obtain ⟨X, gX, gX1, gX2⟩ : ∃ X : Int, (x : Int) = X ∧ 0 ≤ X ∧ X < 4294967296 := ⟨_, rfl, by omega, by omega⟩
      obtain ⟨r0, gr, gr1, gr2⟩ : ∃ r : Int, (R : Int) = r ∧ 0 ≤ r ∧ r < 4294967296 := ⟨_, rfl, by omega, by omega⟩
      have hor : bits BinOp.or IntKind.u64 (r0 * 4294967296) X = r0 * 4294967296 + X := by
        rw [← gr, ← gX]
        have := Num.or_shift R x 32 (by omega) (by simpa using hxl) (by simp; omega)
        simpa using this
      obtain ⟨S, gS, gS1, gS2⟩ : ∃ S : Int, r0 * 4294967296 + X = S ∧ 0 ≤ S ∧ S < 18446744073709551616 := ⟨_, rfl, by omega, by omega⟩
      rw [gS] at hor
      rw [gX] at hcx
      rw [gr]
      have htL : (t : Int) < (L : Int) := by omega
      have hcl := hrow.cell (show t < L by omega)
      have hfr := hrow.frozen t
      obtain ⟨Z, eZ, fZ⟩ : ∃ Z : Int, S / D % 4294967296 = Z ∧ Hid (Z = ((m / d / 4294967296 ^ t % 4294967296 : Nat) : Int)) := ⟨_, rfl, by
        show _ = _
        rw [← hst.1, ← gS, ← gr, ← gX, ← gD]
        have h1 : (R * 4294967296 + x) / d < 4294967296 := by rw [hst.1]; exact Nat.mod_lt _ (by omega)
        have e1 : (((R * 4294967296 + x) / d : Nat) : Int) = ((R : Int) * 4294967296 + (x : Int)) / (d : Int) := by simp
        rw [← e1]
        omega⟩
      obtain ⟨M, eM, fM⟩ : ∃ M : Int, S % D = M ∧ Hid (M = ((m / 4294967296 ^ t % d : Nat) : Int)) := ⟨_, rfl, by
        show _ = _
        rw [← hst.2, ← gS, ← gr, ← gX, ← gD]
        simp⟩
      have HR : Hid ((wr.setCell ⟨w.heap.size, t, none⟩ (.int .u32 Z)).rowIs w.heap.size 104 L (f32 (Dig.upd F t (m / d / 4294967296 ^ t % 4294967296)))) := by
        rw [fZ.out]
        exact is_upd hrow _ _
      have HX : Hid (Ext w (wr.setCell ⟨w.heap.size, t, none⟩ (.int .u32 Z))) := hx.setCell (Nat.le_refl _) _
      have HF : Hid (∀ j, t ≤ j → j < L → Dig.upd F t (m / d / 4294967296 ^ t % 4294967296) j = m / d / 4294967296 ^ j % 4294967296) := by
        intro j h1 h2
        unfold Dig.upd
        split
        · rename_i e; rw [e]
        · exact hF.out j (by omega) h2
      clear hXt hxx hX cx' et hst gS gr gX gD hF hR hrow
      go_wp2_with fail
      exact ⟨⟨t, _, _, by omega, rfl, congrArg (Value.int .u64) (eM.trans fM.out), rfl, HF, HR.out, HX.out⟩, by simp [intOf]⟩
end Go.Proofs.Ytbmocnigmpmfkaa

namespace Go.Proofs.Ytbmocnigmpmfkaa.Dig

theorem DRelQNum3.yes {m b L i Q r : Nat} {F : Nat → Nat} (h : DRelQNum3 m b L (i + 1) Q r F) (hr : b * 2 ^ i ≤ r) : DRelQNum3 m b L i (Q + 2 ^ i) (r - b * 2 ^ i) (upd F (i / 64) (F (i / 64) + 2 ^ (i % 64))) := by
  have hb := h.bit
  refine ⟨?_, ?_, ?_, ?_⟩
  · have := h.sum
    rw [Nat.mul_add]; omega
  · have := h.rest
    have e : b * 2 ^ (i + 1) = 2 * (b * 2 ^ i) := by rw [Nat.pow_succ, ← Nat.mul_assoc, Nat.mul_comm]
    omega
  · intro j
    unfold upd
    have h0 : ∀ j, 2 ^ i ∣ F j * 18446744073709551616 ^ j := fun j => Nat.dvd_trans (Nat.pow_dvd_pow 2 (by omega)) (h.low j)
    split
    · rename_i hj
      subst hj
      rw [Nat.add_mul]
      refine (Nat.dvd_add_right (h0 _)).2 ?_
      have e : (18446744073709551616 : Nat) = 2 ^ 64 := by decide
      rw [e, ← Nat.pow_mul, ← Nat.pow_add]
      exact Nat.pow_dvd_pow 2 (by omega)
    · exact h0 j
  · intro j
    unfold upd
    split
    · exact hb.2
    · exact h.dig j
theorem fval_yes (F : Nat → Nat) (L i Q : Nat) (hL : i / 64 < L) (hQ : fval 18446744073709551616 F L = Q) : fval 18446744073709551616 (upd F (i / 64) (F (i / 64) + 2 ^ (i % 64))) L = Q + 2 ^ i := by
  have h := fval_upd 18446744073709551616 F (i / 64) (F (i / 64) + 2 ^ (i % 64)) L hL
  rw [Nat.mul_add] at h
  have e : (18446744073709551616 : Nat) ^ (i / 64) * 2 ^ (i % 64) = 2 ^ i := by
    have e : (18446744073709551616 : Nat) = 2 ^ 64 := by decide
    rw [e, ← Nat.pow_mul, ← Nat.pow_add]; congr 1; omega
  rw [e, hQ] at h
  omega
theorem DRelQNum3.done {m b L Q r : Nat} {F : Nat → Nat} (h : DRelQNum3 m b L 0 Q r F) : Q = m / b ∧ r = m % b := by
  have h1 := h.sum
  have h2 := h.rest
  rw [Nat.pow_zero, Nat.mul_one] at h2
  have hb : 0 < b := by omega
  constructor
  · rw [h1, Nat.mul_add_div hb, Nat.div_eq_of_lt h2, Nat.add_zero]
  · rw [h1, Nat.mul_add_mod, Nat.mod_eq_of_lt h2]
end Go.Proofs.Ytbmocnigmpmfkaa.Dig
