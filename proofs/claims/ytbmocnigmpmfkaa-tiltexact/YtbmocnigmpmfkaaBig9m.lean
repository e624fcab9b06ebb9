/- The reference's whole numbers: NLen, Down2. -/
import Derived.Test.YtbmocnigmpmfkaaBig8m
import Derived.Test.YtbmocnigmpmfkaaNum3m
namespace Go.Proofs.Ytbmocnigmpmfkaa
open Go.RowKit

set_option maxHeartbeats 1000000 in
theorem nlen_any (m : Nat) (v : Value) (w : World) (h1 : IsN w v m) (s1 : Small m) :
    Calls Try.prog 68 #[v] w fun e w' => e = .returned (.int .i64 (Dig.blen m : Int)) ∧ w' = w := by
  have ok1 := Dig.okd 18446744073709551616 m (by omega)
  have S1 : (Dig.digs 18446744073709551616 m).length ≤ 1000 := s1.1
  have T1 : Dig.blen m ≤ 64000 := Dig.blen_bound m 1000 S1
  have hz : Dig.digs 18446744073709551616 m = [] → m = 0 := Dig.digs_nil _ _ (by omega)
  have HB : Hid (∀ k, (Dig.digs 18446744073709551616 m).length = k + 1 → Dig.blen m = Dig.blen ((Dig.digs 18446744073709551616 m).getD k 0) + 64 * k) := fun k hk => Dig.blen_top m k hk
  unfold IsN at h1
  clear s1
  generalize Dig.digs 18446744073709551616 m = xs at *
  obtain ⟨ax, cx, rfl, gx⟩ := h1.shape
  clear h1
  cases hk : xs.length with
  | zero =>
    have hm0 : m = 0 := hz (List.eq_nil_of_length_eq_zero hk)
    subst hm0
    have e : Hid (0 = (Dig.blen 0 : Int)) := by show _ = _; rw [Dig.blen_zero]; rfl
    clear gx hz HB hk S1 T1
    go_enter Try.func68, Try.ntmps68
    go_wp2_with fail
    go_ret
    exact ⟨ret_int e.out, rfl⟩
  | succ k =>
    obtain ⟨b, o, rfl, hcell⟩ := gx (by omega)
    have hc := hcell k (by omega)
    have hT : Hid (64 * k + Dig.blen (xs.getD k 0) = Dig.blen m) := by have := HB.out k hk; show _ = _; omega
    have hxk := ok1 k
    have hk1 : k ≤ 999 := by omega
    generalize Dig.blen m = T at *
    clear gx hz HB hcell ok1 S1 hk
    obtain ⟨X, gX⟩ : ∃ X : Nat, xs.getD k 0 = X := ⟨_, rfl⟩
    rw [gX] at hc hT hxk
    clear gX
    go_enter Try.func68, Try.ntmps68
    go_wp2_with fail
    go_loop [3, 4] (fun n x => ∃ (c N : Nat), n = .int .i64 (N : Int) ∧ x = .int .u64 (c : Int) ∧ Hid (N + Dig.blen c = T) ∧ c < 18446744073709551616) (fun _ x => (intOf x).toNat)
    case atStart => exact ⟨X, 64 * k, by go_num, rfl, hT, hxk⟩
    case round =>
      clear hc hT hxk
      obtain ⟨c, N, rfl, rfl, hN, hc64⟩ := hrel
      by_cases h0 : c = 0
      · subst h0
        have e : Hid ((N : Int) = (T : Int)) := by have := hN.out; rw [Dig.blen_zero] at this; show _ = _; omega
        go_wp2_with fail
        go_ret
        exact ⟨ret_int e.out, rfl⟩
      · obtain ⟨C, gC, gC'⟩ : ∃ C : Int, (c : Int) = C ∧ 0 < C ∧ C < 18446744073709551616 := ⟨_, rfl, by omega, by omega⟩
        have hne : (C != 0) = true := by simp; omega
        have hN2 : N + 1 ≤ 64000 := by have := hN.out; rw [Dig.blen_pos c h0] at this; omega
        have HN' : Hid ((N + 1) + Dig.blen (c / 2) = T) := Dig.blen_half c T N hN.out h0
        have HD : Hid (C / 2 = ((c / 2 : Nat) : Int)) := by show _ = _; omega
        have HL : Hid ((C / 2).toNat < C.toNat) := by show _ < _; omega
        obtain ⟨gC1, gC2⟩ := gC'
        rw [gC]
        clear hN h0 gC
        go_wp2_with fail
        go_round
        case rel => exact ⟨c / 2, N + 1, by go_num, congrArg (Value.int .u64) HD.out, HN', by omega⟩
        case measure => exact HL.out

end Go.Proofs.Ytbmocnigmpmfkaa
