/- The reference's whole numbers: NCmp. -/
import Derived.Test.YtbmocnigmpmfkaaBig5m
namespace Go.Proofs.Ytbmocnigmpmfkaa
open Go.RowKit

def cmpN (m n : Nat) : Int := if m < n then -1 else if m = n then 0 else 1
theorem top_eq (B : Nat) (xs ys : List Nat) (t : Nat) (h : ∀ j, t ≤ j → xs.getD j 0 = ys.getD j 0) : Dig.val B xs + Dig.val B (ys.take t) = Dig.val B ys + Dig.val B (xs.take t) := by
  have key : ∀ d, Dig.val B (xs.take (t + d)) + Dig.val B (ys.take t) = Dig.val B (ys.take (t + d)) + Dig.val B (xs.take t) := by
    intro d
    induction d with
    | zero => simp only [Nat.add_zero]; omega
    | succ d ih => rw [← Nat.add_assoc, Dig.val_take_succ, Dig.val_take_succ, h (t + d) (by omega)]; omega
  have := key (xs.length + ys.length)
  rw [List.take_of_length_le (show xs.length ≤ t + (xs.length + ys.length) by omega), List.take_of_length_le (show ys.length ≤ t + (xs.length + ys.length) by omega)] at this
  exact this
theorem cmp_digit (B : Nat) (xs ys : List Nat) (t : Nat) (hx : Dig.Ok B xs) (h : ∀ j, t + 1 ≤ j → xs.getD j 0 = ys.getD j 0) (hlt : xs.getD t 0 < ys.getD t 0) : Dig.val B xs < Dig.val B ys := by
  have e := top_eq B xs ys (t + 1) h
  rw [Dig.val_take_succ, Dig.val_take_succ] at e
  have h1 := Dig.val_lt B (xs.take t) (Dig.ok_take hx t)
  have h2 : B ^ (xs.take t).length ≤ B ^ t ∨ B = 0 := by
    rcases Nat.eq_zero_or_pos B with h | h
    · exact .inr h
    · exact .inl (Nat.pow_le_pow_right h (by rw [List.length_take]; omega))
  have hB : B ≠ 0 := by intro h0; have := hx 0; omega
  have h3 : B ^ t * (xs.getD t 0 + 1) ≤ B ^ t * ys.getD t 0 := Nat.mul_le_mul_left _ hlt
  rw [Nat.mul_add, Nat.mul_one] at h3
  rcases h2 with h2 | h2
  · omega
  · exact absurd h2 hB
theorem digs_length_lt (B m n : Nat) (hB : 2 ≤ B) (h : (Dig.digs B m).length < (Dig.digs B n).length) : m < n := by
  apply Nat.lt_of_not_le
  intro hle
  have h1 := Dig.val_lt B _ (Dig.okd B m hB)
  rw [Dig.vald B m hB] at h1
  have := Dig.digs_length_le B hB n _ (Nat.lt_of_le_of_lt hle h1)
  omega

set_option maxHeartbeats 2000000 in
theorem ncmp_any (m n : Nat) (v1 v2 : Value) (w : World) (h1 : IsN w v1 m) (h2 : IsN w v2 n) (s1 : Small m) (s2 : Small n) :
    Calls Try.prog 52 #[v1, v2] w fun e w' => e = .returned (.int .i64 (cmpN m n)) ∧ Ext w w' := by
  have ok1 := Dig.okd 18446744073709551616 m (by omega)
  have ok2 := Dig.okd 18446744073709551616 n (by omega)
  have S1 := s1.1
  have S2 := s2.1
  have L1 : Hid ((Dig.digs 18446744073709551616 m).length < (Dig.digs 18446744073709551616 n).length → -1 = cmpN m n) := fun h => by
    have := digs_length_lt 18446744073709551616 m n (by omega) h
    unfold cmpN; rw [if_pos this]
  have L2 : Hid ((Dig.digs 18446744073709551616 n).length < (Dig.digs 18446744073709551616 m).length → 1 = cmpN m n) := fun h => by
    have := digs_length_lt 18446744073709551616 n m (by omega) h
    unfold cmpN; rw [if_neg (by omega), if_neg (by omega)]
  have V1 := Dig.vald 18446744073709551616 m (by omega)
  have V2 := Dig.vald 18446744073709551616 n (by omega)
  have D1 : Hid (∀ t, (∀ j, t + 1 ≤ j → (Dig.digs 18446744073709551616 m).getD j 0 = (Dig.digs 18446744073709551616 n).getD j 0) → (Dig.digs 18446744073709551616 m).getD t 0 < (Dig.digs 18446744073709551616 n).getD t 0 → -1 = cmpN m n) := fun t h hlt => by
    have := cmp_digit _ _ _ t ok1 h hlt
    rw [V1, V2] at this
    unfold cmpN; rw [if_pos this]
  have D2 : Hid (∀ t, (∀ j, t + 1 ≤ j → (Dig.digs 18446744073709551616 m).getD j 0 = (Dig.digs 18446744073709551616 n).getD j 0) → (Dig.digs 18446744073709551616 n).getD t 0 < (Dig.digs 18446744073709551616 m).getD t 0 → 1 = cmpN m n) := fun t h hlt => by
    have := cmp_digit _ _ _ t ok2 (fun j hj => (h j hj).symm) hlt
    rw [V1, V2] at this
    unfold cmpN; rw [if_neg (by omega), if_neg (by omega)]
  have D3 : Hid ((∀ j, 0 ≤ j → (Dig.digs 18446744073709551616 m).getD j 0 = (Dig.digs 18446744073709551616 n).getD j 0) → 0 = cmpN m n) := fun h => by
    have := top_eq 18446744073709551616 _ _ 0 h
    rw [V1, V2] at this
    simp only [List.take_zero, Dig.val, Nat.add_zero] at this
    unfold cmpN; rw [if_neg (by omega), if_pos this]
  unfold IsN at h1 h2
  clear V1 V2 s1 s2
  generalize Dig.digs 18446744073709551616 m = xs at *
  generalize Dig.digs 18446744073709551616 n = ys at *
  generalize cmpN m n = R at *
  obtain ⟨ax, cx, rfl, gx⟩ := h1.shape
  obtain ⟨ay, cy, rfl, gy⟩ := h2.shape
  have GX : Hid _ := gx
  have GY : Hid _ := gy
  clear h1 h2 gx gy
  rcases Nat.lt_trichotomy xs.length ys.length with hlt | heq | hgt
  · have e1 : ((xs.length : Int) != (ys.length : Int)) = true := by simp; omega
    have e2 : (xs.length : Int) < (ys.length : Int) := by omega
    have e3 : Hid (-1 = R) := L1.out hlt
    clear L1 L2 D1 D2 D3
    go_enter Try.func52, Try.ntmps52
    go_wp2_with fail
    go_ret
    exact ⟨ret_int e3.out, Ext.refl _⟩
  · have hl : Hid (xs.length = ys.length) := heq
    have e1 : ((xs.length : Int) != (ys.length : Int)) = false := by simp; omega
    clear L1 L2 heq
    go_enter Try.func52, Try.ntmps52
    go_wp2_with fail
    go_loopw [5] (fun i wr => ∃ t : Nat, t ≤ xs.length ∧ i = .int .i64 ((t : Int) - 1) ∧ (∀ j, t ≤ j → xs.getD j 0 = ys.getD j 0) ∧ Ext w wr) (fun i _ => ((intOf i) + 1).toNat)
    case atStart =>
      refine ⟨xs.length, Nat.le_refl _, rfl, fun j hj => ?_, Ext.refl _⟩
      rw [List.getD_eq_getElem?_getD, List.getD_eq_getElem?_getD, List.getElem?_eq_none hj, List.getElem?_eq_none (by have := hl.out; omega)]
    case round =>
      obtain ⟨t, ht, rfl, heq, hx⟩ := hrel
      have HE : Hid _ := heq
      clear heq
      cases t with
      | zero =>
        have e3 : Hid (0 = R) := D3.out HE.out
        go_wp2_with fail
        go_ret
        exact ⟨ret_int e3.out, hx⟩
      | succ t =>
        obtain ⟨blx, ofx, rfl, cx'⟩ := GX.out (by omega)
        obtain ⟨bly, ofy, rfl, cy'⟩ := GY.out (by have := hl.out; omega)
        have hty : t < ys.length := by have := hl.out; omega
        have hcx := (hx.lay).1 blx (ofx + t) (cell_lt (cx' t (by omega)))
        rw [cx' t (by omega)] at hcx
        have hcy := (hx.lay).1 bly (ofy + t) (cell_lt (cy' t hty))
        rw [cy' t hty] at hcy
        have kx : (t : Int) < (xs.length : Int) := by omega
        have ky : (t : Int) < (ys.length : Int) := by omega
        have et : ((t + 1 : Nat) : Int) - 1 = (t : Int) := by omega
        rw [et]
        obtain ⟨X, gX⟩ : ∃ X : Int, ((xs.getD t 0 : Nat) : Int) = X := ⟨_, rfl⟩
        obtain ⟨Y, gY⟩ : ∃ Y : Int, ((ys.getD t 0 : Nat) : Int) = Y := ⟨_, rfl⟩
        rw [gX] at hcx
        rw [gY] at hcy
        rcases Int.lt_trichotomy X Y with c | c | c
        · have e3 : Hid (-1 = R) := D1.out t HE.out (by omega)
          clear gX gY et cx' cy' D1 D2 D3
          go_wp2_with fail
          go_quiet (fail)
          go_wp2_with fail
          go_ret
          exact ⟨ret_int e3.out, hx.drewN _⟩
        · have HE' : Hid (∀ j, t ≤ j → xs.getD j 0 = ys.getD j 0) := by
            intro j hj
            by_cases e : j = t
            · rw [e]; omega
            · exact HE.out j (by omega)
          subst c
          clear gX gY et cx' cy' D1 D2 D3 HE
          go_wp2_with fail
          go_quiet (fail)
          go_wp2_with fail
          go_quiet (fail)
          go_wp2_with fail
          go_roundw
          case rel => exact ⟨t, by omega, by go_num, HE'.out, hx.drewN _⟩
          case measure => simp [intOf]
        · have e3 : Hid (1 = R) := D2.out t HE.out (by omega)
          clear gX gY et cx' cy' D1 D2 D3
          have hnl : ¬ X < Y := by omega
          go_wp2_with fail
          go_quiet (fail)
          go_wp2_with fail
          go_quiet (fail)
          go_wp2_with fail
          go_ret
          exact ⟨ret_int e3.out, (hx.drewN _).drewN _⟩
  · have e1 : ((xs.length : Int) != (ys.length : Int)) = true := by simp; omega
    have e2 : ¬ (xs.length : Int) < (ys.length : Int) := by omega
    have e3 : Hid (1 = R) := L2.out hgt
    clear L1 L2 D1 D2 D3
    go_enter Try.func52, Try.ntmps52
    go_wp2_with fail
    go_ret
    exact ⟨ret_int e3.out, Ext.refl _⟩
end Go.Proofs.Ytbmocnigmpmfkaa
