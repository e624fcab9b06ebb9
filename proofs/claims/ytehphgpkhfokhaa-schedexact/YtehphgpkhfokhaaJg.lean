/- wheel: rise, foremost, sink. -/
import Derived.Test.YtehphgpkhfokhaaJf
namespace Go.Proofs.Ytehphgpkhfokhaa
open Go.RowKit
/-- what a walk over a heap has left: the same timers in another order -/
def Same (w w' : World) (p g cap : Nat) (xs ys : List Tm) (T : Int) : Prop :=
  ys.length = xs.length ∧ ys.Perm xs ∧ HS w' p (.slice (some ⟨g, 0, none⟩) ys.length cap) ys T ∧ Turn (own p (.slice (some ⟨g, 0, none⟩) xs.length cap)) w w'
theorem Same.trans {w w1 w2 : World} {p g cap : Nat} {xs ys zs : List Tm} {T : Int} (h : Same w w1 p g cap xs ys T) (k : Same w1 w2 p g cap ys zs T) : Same w w2 p g cap xs zs T :=
  ⟨k.1.trans h.1, k.2.1.trans h.2.1, k.2.2.1, h.2.2.2.trans k.2.2.2 (fun _ _ _ o => o)⟩
theorem Same.ext {w w1 w2 : World} {p g cap : Nat} {xs ys : List Tm} {T : Int} (h : Same w w1 p g cap xs ys T) (k : Ext w1 w2) : Same w w2 p g cap xs ys T :=
  ⟨h.1, h.2.1, h.2.2.1.ext k, h.2.2.2.trans (Turn.of_ext (own := own p (.slice (some ⟨g, 0, none⟩) xs.length cap)) k) (fun _ _ _ o => o)⟩
theorem Same.refl {w : World} {p g cap : Nat} {xs : List Tm} {T : Int} (h : HS w p (.slice (some ⟨g, 0, none⟩) xs.length cap) xs T) : Same w w p g cap xs xs T :=
  ⟨rfl, List.Perm.refl _, h, Turn.refl _ _⟩
theorem swap_same {p g cap : Nat} {xs : List Tm} {T : Int} (i j : Nat) (w : World) (h : HS w p (.slice (some ⟨g, 0, none⟩) xs.length cap) xs T) (hi : i < xs.length) (hj : j < xs.length) (hij : i ≠ j) :
    Calls Try.prog 60 #[.pointer (some ⟨p, 1, none⟩), .int .i64 i, .int .i64 j] w fun e w' => (∃ v, e = .returned v) ∧ Same w w' p g cap xs (swl xs i j) T :=
  (swap_any i j w h hi hj hij).mono fun _ _ ⟨he, h1, h2⟩ => ⟨he, swl_len xs i j, swl_perm hi hj, h1, h2⟩
set_option maxRecDepth 20000 in
set_option maxHeartbeats 8000000 in
theorem rise_any {p g cap : Nat} {xs : List Tm} {T : Int} (i0 : Nat) (w : World) (h : HS w p (.slice (some ⟨g, 0, none⟩) xs.length cap) xs T) (hi : i0 < xs.length) (hm : xs.length ≤ 1000000) (hh : Hole (gt xs) xs.length i0) :
    Calls Try.prog 54 #[.pointer (some ⟨p, 1, none⟩), .int .i64 i0] w fun e w' => (∃ v, e = .returned v) ∧ ∃ ys, Same w w' p g cap xs ys T ∧ Down (gt ys) ys.length i0 := by
  have H0 : Hid (Same w w p g cap xs xs T ∧ Rise (gt xs) xs.length i0 i0) := ⟨Same.refl h, rise_start hh⟩
  have HA : Hid (∀ (ys : List Tm) (i j : Nat) (w : World), HS w p (.slice (some ⟨g, 0, none⟩) ys.length cap) ys T → i < ys.length → j < ys.length → Calls Try.prog 58 #[.pointer (some ⟨p, 1, none⟩), .int .i64 i, .int .i64 j] w fun e w' => e = .returned (.bool (dlt (gt ys i) (gt ys j))) ∧ Ext w w') := fun ys i j w h hi hj => hahead_any i j w h hi hj
  have HP : Hid (∀ (i : Nat) (w : World), 0 < i → i ≤ 1000000 → Calls Try.prog 59 #[.int .i64 i] w fun e w' => e = .returned (.int .i64 (par i)) ∧ w' = w) := fun i w hi hm => parent_any i hi hm w
  have HS' : Hid (∀ (ys : List Tm) (i j : Nat) (w : World), HS w p (.slice (some ⟨g, 0, none⟩) ys.length cap) ys T → i < ys.length → j < ys.length → i ≠ j → Calls Try.prog 60 #[.pointer (some ⟨p, 1, none⟩), .int .i64 i, .int .i64 j] w fun e w' => (∃ v, e = .returned v) ∧ Same w w' p g cap ys (swl ys i j) T) := fun ys i j w h hi hj hij => swap_same i j w h hi hj hij
  clear h hh
  go_enter Try.func54, Try.ntmps54
  go_wp2_with fail
  go_loopw [1] (fun s1 wr => ∃ (k : Nat) (ys : List Tm), s1 = .int .i64 k ∧ k < xs.length ∧ Hid (Same w wr p g cap xs ys T ∧ Rise (gt ys) ys.length i0 k)) (fun s1 _ => (intOf s1).toNat)
  case atStart => exact ⟨i0, xs, rfl, hi, H0⟩
  case round =>
    obtain ⟨k, ys, rfl, hk, hR⟩ := hrel
    have hlen := hR.out.1.1
    by_cases hk0 : k = 0
    · subst hk0
      go_wp2_with fail
      go_end0
      exact ⟨⟨_, rfl⟩, ys, hR.out.1, rise_end hR.out.2 (.inl rfl)⟩
    · have hk0' : 0 < k := by omega
      have hkp := par_lt hk0'
      have HPk := fun w => HP.out k w hk0' (by omega)
      have HAk := HA.out ys k (par k) wr hR.out.1.2.2.1 (by omega) (by omega)
      by_cases hl : lt (gt ys k) (gt ys (par k))
      · rw [dlt_true hl] at HAk
        have HSk : Hid (∀ w1, Ext wr w1 → Calls Try.prog 60 #[.pointer (some ⟨p, 1, none⟩), .int .i64 k, .int .i64 (par k)] w1 fun e w' => (∃ v, e = .returned v) ∧ Same w w' p g cap xs (swl ys k (par k)) T) := fun w1 x1 => (HS'.out ys k (par k) w1 (hR.out.1.2.2.1.ext x1) (by omega) (by omega) (by omega)).mono fun _ _ ⟨he, hs⟩ => ⟨he, (hR.out.1.ext x1).trans hs⟩
        have HN : Hid (Rise (gt (swl ys k (par k))) (swl ys k (par k)).length i0 (par k)) := by
          show Rise _ _ _ _
          rw [swl_gt (by omega) (by omega), swl_len]
          exact rise_step hR.out.2 hk0' (by omega) hl
        have hkx : (0 : Int) < (k : Int) := by omega
        clear hR hl H0 HA HP HS' hk0
        go_wp2_with (first | (go_at_call 59; refine (HPk _).mono ?_; rintro e wx ⟨rfl, hwx⟩; have hwy := hwx.symm; clear hwx; subst hwy) | (go_at_call 58; refine HAk.mono ?_; rintro e w1 ⟨rfl, x1⟩) | (go_at_call 60; refine (HSk.out _ x1).mono ?_; rintro e w2 ⟨⟨v2, rfl⟩, h2⟩))
        go_roundw
        case measure => simp [intOf]; omega
        case rel => exact ⟨par k, _, rfl, by omega, h2, HN.out⟩
      · rw [dlt_false hl] at HAk
        have hkx : (0 : Int) < (k : Int) := by omega
        clear H0 HA HP HS' hk0
        go_wp2_with (first | (go_at_call 59; refine (HPk _).mono ?_; rintro e wx ⟨rfl, hwx⟩; have hwy := hwx.symm; clear hwx; subst hwy) | (go_at_call 58; refine HAk.mono ?_; rintro e w1 ⟨rfl, x1⟩))
        go_end0
        exact ⟨⟨_, rfl⟩, ys, hR.out.1.ext x1, rise_end hR.out.2 (.inr hl)⟩
end Go.Proofs.Ytehphgpkhfokhaa
