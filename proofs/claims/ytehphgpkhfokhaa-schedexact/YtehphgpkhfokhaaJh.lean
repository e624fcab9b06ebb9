/- wheel: foremost, sink. -/
import Derived.Test.YtehphgpkhfokhaaJg
namespace Go.Proofs.Ytehphgpkhfokhaa
open Go.RowKit
/-- f: the foremost of i and its children up to c -/
def Fore (xs : List Tm) (i c f : Nat) : Prop :=
  f < xs.length ∧ (f = i ∨ (0 < f ∧ par f = i)) ∧ (∀ d, 0 < d → par d = i → d < c → d < xs.length → ¬ lt (gt xs d) (gt xs f)) ∧ ¬ lt (gt xs i) (gt xs f)
theorem Fore.start {xs : List Tm} {i : Nat} (hi : i < xs.length) : Fore xs i (2 * i + 1) i :=
  ⟨hi, .inl rfl, fun d hd hp hc => by have := par_child hd hp; omega, lt_irr _⟩
theorem Fore.take {xs : List Tm} {i c f : Nat} (h : Fore xs i c f) (h0 : 0 < c) (hp : par c = i) (hc : c < xs.length) (hl : lt (gt xs c) (gt xs f)) : Fore xs i (c + 1) c := by
  obtain ⟨h1, h2, h3, h4⟩ := h
  refine ⟨hc, .inr ⟨h0, hp⟩, fun d hd hpd hdc hdn => ?_, le_tr (le_of_lt hl) h4⟩
  by_cases e : d = c
  · subst e; exact lt_irr _
  · exact le_tr (le_of_lt hl) (h3 d hd hpd (by omega) hdn)
theorem Fore.pass {xs : List Tm} {i c f : Nat} (h : Fore xs i c f) (hl : c < xs.length → ¬ lt (gt xs c) (gt xs f)) : Fore xs i (c + 1) f := by
  obtain ⟨h1, h2, h3, h4⟩ := h
  refine ⟨h1, h2, fun d hd hpd hdc hdn => ?_, h4⟩
  by_cases e : d = c
  · subst e; exact hl hdn
  · exact h3 d hd hpd (by omega) hdn
theorem Fore.all {xs : List Tm} {i c f : Nat} (h : Fore xs i c f) (hc : 2 * i + 3 ≤ c ∨ xs.length ≤ c) : ∀ d, 0 < d → par d = i → d < xs.length → ¬ lt (gt xs d) (gt xs f) := fun d hd hp hn => h.2.2.1 d hd hp (by have := par_child hd hp; omega) hn
set_option maxRecDepth 20000 in
set_option maxHeartbeats 8000000 in
theorem foremost_any {p g cap : Nat} {xs : List Tm} {T : Int} (i : Nat) (w : World) (h : HS w p (.slice (some ⟨g, 0, none⟩) xs.length cap) xs T) (hi : i < xs.length) (hm : xs.length ≤ 1000000) :
    Calls Try.prog 61 #[.pointer (some ⟨p, 1, none⟩), .int .i64 i] w fun e w' => (∃ f, e = .returned (.int .i64 (f : Nat)) ∧ f < xs.length ∧ (f = i ∨ (0 < f ∧ par f = i)) ∧ (∀ d, 0 < d → par d = i → d < xs.length → ¬ lt (gt xs d) (gt xs f)) ∧ ¬ lt (gt xs i) (gt xs f)) ∧ Ext w w' := by
  have HA : Hid (∀ (i j : Nat) (w' : World), Ext w w' → i < xs.length → j < xs.length → Calls Try.prog 58 #[.pointer (some ⟨p, 1, none⟩), .int .i64 i, .int .i64 j] w' fun e w'' => e = .returned (.bool (dlt (gt xs i) (gt xs j))) ∧ Ext w' w'') := fun i j w' hx hi hj => hahead_any i j w' (h.ext hx) hi hj
  have hp := h.1.1
  have H0 : Hid (Fore xs i (2 * i + 1) i) := Fore.start hi
  clear h
  go_enter Try.func61, Try.ntmps61
  go_wp2_with fail
  go_loopw [5, 6] (fun s5 s6 wr => ∃ (f c : Nat), s5 = .int .i64 f ∧ s6 = .int .i64 c ∧ 2 * i + 1 ≤ c ∧ c ≤ 2 * i + 3 ∧ Hid (Fore xs i c f) ∧ Ext w wr) (fun _ s6 _ => 2 * i + 3 - (intOf s6).toNat)
  case atStart => exact ⟨i, 2 * i + 1, rfl, by simp, by omega, by omega, H0, Ext.refl _⟩
  case round =>
    obtain ⟨f, c, rfl, rfl, hc1, hc2, hF, hx⟩ := hrel
    have hp := hx.keepc hp
    by_cases hc3 : c ≤ 2 * i + 2
    · have hcx : (c : Int) ≤ 2 * (i : Int) + 2 := by omega
      by_cases hcn : c < xs.length
      · have hcy : (c : Int) < (xs.length : Int) := by omega
        have HAk := HA.out c f wr hx hcn hF.out.1
        have hpc : par c = i := by unfold par; omega
        by_cases hl : lt (gt xs c) (gt xs f)
        · rw [dlt_true hl] at HAk
          have HN : Hid (Fore xs i (c + 1) c) := hF.out.take (by omega) hpc hcn hl
          clear HA H0 hF hl
          go_wp2_with (go_at_call 58; refine HAk.mono ?_; rintro e w1 ⟨rfl, x1⟩)
          go_roundw
          case measure => simp [intOf]; omega
          case rel => exact ⟨c, c + 1, rfl, by simp, by omega, by omega, HN, hx.trans x1⟩
        · rw [dlt_false hl] at HAk
          have HN : Hid (Fore xs i (c + 1) f) := hF.out.pass (fun _ => hl)
          clear HA H0 hF hl
          go_wp2_with (go_at_call 58; refine HAk.mono ?_; rintro e w1 ⟨rfl, x1⟩)
          go_roundw
          case measure => simp [intOf]; omega
          case rel => exact ⟨f, c + 1, rfl, by simp, by omega, by omega, HN, hx.trans x1⟩
      · have hcy : ¬ (c : Int) < (xs.length : Int) := by omega
        go_wp2_with fail
        go_ret
        exact ⟨⟨f, rfl, hF.out.1, hF.out.2.1, hF.out.all (.inr (by omega)), hF.out.2.2.2⟩, hx⟩
    · have hcx : ¬ (c : Int) ≤ 2 * (i : Int) + 2 := by omega
      go_wp2_with fail
      go_ret
      exact ⟨⟨f, rfl, hF.out.1, hF.out.2.1, hF.out.all (.inl (by omega)), hF.out.2.2.2⟩, hx⟩
set_option maxRecDepth 20000 in
set_option maxHeartbeats 8000000 in
theorem sink_any {p g cap : Nat} {xs : List Tm} {T : Int} (i0 : Nat) (w : World) (h : HS w p (.slice (some ⟨g, 0, none⟩) xs.length cap) xs T) (hi : i0 < xs.length) (hm : xs.length ≤ 1000000) (hh : Down (gt xs) xs.length i0) :
    Calls Try.prog 55 #[.pointer (some ⟨p, 1, none⟩), .int .i64 i0] w fun e w' => (∃ v, e = .returned v) ∧ ∃ ys, Same w w' p g cap xs ys T ∧ Heap (gt ys) ys.length := by
  have H0 : Hid (Same w w p g cap xs xs T ∧ Down (gt xs) xs.length i0) := ⟨Same.refl h, hh⟩
  have HF : Hid (∀ (ys : List Tm) (i : Nat) (w : World), HS w p (.slice (some ⟨g, 0, none⟩) ys.length cap) ys T → i < ys.length → ys.length ≤ 1000000 → Calls Try.prog 61 #[.pointer (some ⟨p, 1, none⟩), .int .i64 i] w fun e w' => (∃ f, e = .returned (.int .i64 (f : Nat)) ∧ f < ys.length ∧ (f = i ∨ (0 < f ∧ par f = i)) ∧ (∀ d, 0 < d → par d = i → d < ys.length → ¬ lt (gt ys d) (gt ys f)) ∧ ¬ lt (gt ys i) (gt ys f)) ∧ Ext w w') := fun ys i w h hi hm => foremost_any i w h hi hm
  have HS' : Hid (∀ (ys : List Tm) (i j : Nat) (w : World), HS w p (.slice (some ⟨g, 0, none⟩) ys.length cap) ys T → i < ys.length → j < ys.length → i ≠ j → Calls Try.prog 60 #[.pointer (some ⟨p, 1, none⟩), .int .i64 i, .int .i64 j] w fun e w' => (∃ v, e = .returned v) ∧ Same w w' p g cap ys (swl ys i j) T) := fun ys i j w h hi hj hij => swap_same i j w h hi hj hij
  have HF0 := HF.out xs i0 w h hi hm
  clear h hh
  go_enter Try.func55, Try.ntmps55
  go_wp2_with (go_at_call 61; refine HF0.mono ?_; rintro e w1 ⟨⟨f0, rfl, hf0⟩, x1⟩)
  go_loopw [1, 4] (fun s1 s4 wr => ∃ (k f : Nat) (ys : List Tm), s1 = .int .i64 k ∧ s4 = .int .i64 f ∧ k < xs.length ∧ Hid (Same w wr p g cap xs ys T ∧ Down (gt ys) ys.length k ∧ f < ys.length ∧ (f = k ∨ (0 < f ∧ par f = k)) ∧ (∀ d, 0 < d → par d = k → d < ys.length → ¬ lt (gt ys d) (gt ys f)) ∧ ¬ lt (gt ys k) (gt ys f))) (fun s1 _ _ => xs.length - (intOf s1).toNat)
  case atStart => exact ⟨i0, f0, xs, rfl, rfl, hi, H0.out.1.ext x1, H0.out.2, hf0⟩
  case round =>
    obtain ⟨k, f, ys, rfl, rfl, hk, hR⟩ := hrel
    have hlen := hR.out.1.1
    by_cases hkf : f = k
    · subst hkf
      go_wp2_with fail
      go_end0
      exact ⟨⟨_, rfl⟩, ys, hR.out.1, sink_end hR.out.2.1 hR.out.2.2.2.2.1⟩
    · have hfk : 0 < f ∧ par f = k := by rcases hR.out.2.2.2.1 with e | e <;> first | exact absurd e hkf | exact e
      have hfn : f < ys.length := hR.out.2.2.1
      have hkf2 : k < f := by have := par_lt hfk.1; omega
      have HSk := (HS'.out ys k f wr hR.out.1.2.2.1 (by omega) hfn (by omega))
      have HN : Hid (Down (gt (swl ys k f)) (swl ys k f).length f) := by
        show Down _ _ _
        rw [swl_gt (by omega) (by omega), swl_len]
        exact sink_step hR.out.2.1 hfk.1 hfk.2 hfn hR.out.2.2.2.2.1 hR.out.2.2.2.2.2
      have HFk : Hid (∀ w1, Same wr w1 p g cap ys (swl ys k f) T → Calls Try.prog 61 #[.pointer (some ⟨p, 1, none⟩), .int .i64 f] w1 fun e w' => ∃ f', e = .returned (.int .i64 (f' : Nat)) ∧ Hid (Same w w' p g cap xs (swl ys k f) T ∧ Down (gt (swl ys k f)) (swl ys k f).length f ∧ f' < (swl ys k f).length ∧ (f' = f ∨ (0 < f' ∧ par f' = f)) ∧ (∀ d, 0 < d → par d = f → d < (swl ys k f).length → ¬ lt (gt (swl ys k f) d) (gt (swl ys k f) f')) ∧ ¬ lt (gt (swl ys k f) f) (gt (swl ys k f) f'))) := fun w1 h1 => (HF.out (swl ys k f) f w1 h1.2.2.1 (by rw [swl_len]; exact hfn) (by rw [swl_len]; omega)).mono fun _ _ ⟨⟨f', he, hf'⟩, hx⟩ => ⟨f', he, (hR.out.1.trans h1).ext hx, HN.out, hf'⟩
      have hkfi : ¬ (f : Int) = (k : Int) := by omega
      clear hR H0 HF HS' hf0 HF0 hkf
      go_wp2_with (first | (go_at_call 60; refine HSk.mono ?_; rintro e w2 ⟨⟨v2, rfl⟩, h2⟩) | (go_at_call 61; refine (HFk.out _ h2).mono ?_; rintro e w3 ⟨f', rfl, h3⟩))
      go_roundw
      case measure => simp [intOf]; omega
      case rel => exact ⟨f, f', _, rfl, rfl, by omega, h3⟩
end Go.Proofs.Ytehphgpkhfokhaa
