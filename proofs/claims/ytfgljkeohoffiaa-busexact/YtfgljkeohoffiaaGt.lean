/- MayTx, May of the reference. -/
import Derived.Test.YtfgljkeohoffiaaGs
namespace Go.Proofs.Ytfgljkeohoffiaa
open Go.RowKit Go.Conc
theorem maytx_eq (addr reg : Int) (len : Nat) (n : Int) : okT addr reg len n = (inn addr 0 127 && inn reg 0 5 && ((decide (len = 0) && inn n 1 128) || (inn len 1 8 && decide (n = 0)))) := by
  unfold okT
  congr 1
  by_cases h : 0 < len
  · rw [if_pos h]
    have e1 : decide (len = 0) = false := by simp; omega
    have e2 : inn (len : Int) 1 8 = decide (len ≤ 8) := by unfold inn; rw [Bool.eq_iff_iff]; simp only [decide_eq_true_eq]; omega
    rw [e1, e2]; rfl
  · have h0 : len = 0 := by omega
    subst h0
    rw [if_neg h]
    have e2 : inn ((0 : Nat) : Int) 1 8 = false := by simp [inn]
    rw [e2]; simp
set_option maxRecDepth 20000 in
set_option maxHeartbeats 4000000 in
theorem maytx_any (addr reg : Int) (a : Option Addr) (len c : Nat) (n : Int) (w : World) (hl : len ≤ maxLen) : Calls Try.prog 17 #[txv addr reg a len c n] w fun e w' => e = .returned (.bool (okT addr reg len n)) ∧ Ext w w' := by
  unfold maxLen at hl
  have hx : Ext w (w.alloc (txc addr reg a len c n)) := (Ext.refl w).alloc _
  have HX : Hid (∀ w, Calls Try.prog 26 #[.int .i64 addr, .int .i64 0, .int .i64 127] w fun e w' => e = .returned (.bool (inn addr 0 127)) ∧ w' = w) := in_any _ _ _
  have HY : Hid (∀ w, Calls Try.prog 26 #[.int .i64 reg, .int .i64 0, .int .i64 5] w fun e w' => e = .returned (.bool (inn reg 0 5)) ∧ w' = w) := in_any _ _ _
  have HZ : Hid (∀ w, Calls Try.prog 26 #[.int .i64 n, .int .i64 1, .int .i64 128] w fun e w' => e = .returned (.bool (inn n 1 128)) ∧ w' = w) := in_any _ _ _
  have HU : Hid (∀ w, Calls Try.prog 26 #[.int .i64 (len : Int), .int .i64 1, .int .i64 8] w fun e w' => e = .returned (.bool (inn len 1 8)) ∧ w' = w) := in_any _ _ _
  have ex : Hid (okT addr reg len n = (inn addr 0 127 && inn reg 0 5 && ((decide (len = 0) && inn n 1 128) || (inn len 1 8 && decide (n = 0))))) := maytx_eq _ _ _ _
  cases h1 : inn addr 0 127 <;> rw [h1] at HX
  · have e : Hid (okT addr reg len n = false) := by show _ = _; rw [ex.out, h1]; rfl
    clear h1
    go_enter Try.func17, Try.ntmps17
    go_wp2_with (go_at_call 26; refine (HX.out _).mono ?_; rintro e w' ⟨rfl, rfl⟩)
    go_ret
    rw [e.out]
    exact ⟨rfl, hx⟩
  cases h2 : inn reg 0 5 <;> rw [h2] at HY
  · have e : Hid (okT addr reg len n = false) := by show _ = _; rw [ex.out, h1, h2]; rfl
    clear h1 h2
    go_enter Try.func17, Try.ntmps17
    go_wp2_with (first | (go_at_call_of 26 (Value.int IntKind.i64 127); refine (HX.out _).mono ?_; rintro e w' ⟨rfl, rfl⟩) | (go_at_call_of 26 (Value.int IntKind.i64 5); refine (HY.out _).mono ?_; rintro e w' ⟨rfl, rfl⟩))
    go_ret
    rw [e.out]
    exact ⟨rfl, hx⟩
  have e0 : Hid (okT addr reg len n = ((decide (len = 0) && inn n 1 128) || (inn len 1 8 && decide (n = 0)))) := by show _ = _; rw [ex.out, h1, h2]; rfl
  clear h1 h2 ex
  by_cases h0 : len = 0
  · subst h0
    have e9 : inn ((0 : Nat) : Int) 1 8 = false := by simp [inn]
    cases h3 : inn n 1 128 <;> rw [h3] at HZ
    · have e : Hid (okT addr reg 0 n = false) := by show _ = _; rw [e0.out, h3, e9]; rfl
      rw [e9] at HU
      clear h3 e9
      go_enter Try.func17, Try.ntmps17
      go_wp2_with (first | (go_at_call_of 26 (Value.int IntKind.i64 127); refine (HX.out _).mono ?_; rintro e w' ⟨rfl, rfl⟩) | (go_at_call_of 26 (Value.int IntKind.i64 5); refine (HY.out _).mono ?_; rintro e w' ⟨rfl, rfl⟩) | (go_at_call_of 26 (Value.int IntKind.i64 128); refine (HZ.out _).mono ?_; rintro e w' ⟨rfl, rfl⟩) | (go_at_call_of 26 (Value.int IntKind.i64 8); refine (HU.out _).mono ?_; rintro e w' ⟨rfl, rfl⟩))
      go_ret
      rw [e.out]
      exact ⟨rfl, hx⟩
    · have e : Hid (okT addr reg 0 n = true) := by show _ = _; rw [e0.out, h3]; rfl
      clear h3 e9
      go_enter Try.func17, Try.ntmps17
      go_wp2_with (first | (go_at_call_of 26 (Value.int IntKind.i64 127); refine (HX.out _).mono ?_; rintro e w' ⟨rfl, rfl⟩) | (go_at_call_of 26 (Value.int IntKind.i64 5); refine (HY.out _).mono ?_; rintro e w' ⟨rfl, rfl⟩) | (go_at_call_of 26 (Value.int IntKind.i64 128); refine (HZ.out _).mono ?_; rintro e w' ⟨rfl, rfl⟩))
      go_ret
      rw [e.out]
      exact ⟨rfl, hx⟩
  · have h0b : ((len : Int) == 0) = false := by simp; omega
    have d0 : decide (len = 0) = false := by simpa using h0
    cases h4 : inn (len : Int) 1 8 <;> rw [h4] at HU
    · have e : Hid (okT addr reg len n = false) := by show _ = _; rw [e0.out, h4, d0]; rfl
      clear h4
      go_enter Try.func17, Try.ntmps17
      go_wp2_with (first | (go_at_call_of 26 (Value.int IntKind.i64 127); refine (HX.out _).mono ?_; rintro e w' ⟨rfl, rfl⟩) | (go_at_call_of 26 (Value.int IntKind.i64 5); refine (HY.out _).mono ?_; rintro e w' ⟨rfl, rfl⟩) | (go_at_call_of 26 (Value.int IntKind.i64 8); refine (HU.out _).mono ?_; rintro e w' ⟨rfl, rfl⟩))
      go_ret
      rw [e.out]
      exact ⟨rfl, hx⟩
    · have e : Hid (okT addr reg len n = (n == 0)) := by show _ = _; rw [e0.out, h4, d0]; simp; rfl
      clear h4
      go_enter Try.func17, Try.ntmps17
      go_wp2_with (first | (go_at_call_of 26 (Value.int IntKind.i64 127); refine (HX.out _).mono ?_; rintro e w' ⟨rfl, rfl⟩) | (go_at_call_of 26 (Value.int IntKind.i64 5); refine (HY.out _).mono ?_; rintro e w' ⟨rfl, rfl⟩) | (go_at_call_of 26 (Value.int IntKind.i64 8); refine (HU.out _).mono ?_; rintro e w' ⟨rfl, rfl⟩))
      go_ret
      rw [e.out]
      exact ⟨rfl, hx⟩
/-- of the models ahead none has this address -/
theorem okUp_step (M : List Md) {i : Nat} (h1 : okUp M i = true) (h2 : okM (gm M i) = true) (h3 : ∀ k, k < i → (gm M k).addr ≠ (gm M i).addr) : okUp M (i + 1) = true := by
  unfold okUp
  rw [h1, h2, fnd_none (D := dvs M) (fun j hj => h3 j hj)]
  rfl
theorem okUp_bad (M : List Md) {i : Nat} (h2 : okM (gm M i) = false) : okUp M (i + 1) = false := by
  unfold okUp; rw [h2]; simp
theorem okUp_two (M : List Md) {i k : Nat} (hk : k < i) (h : (gm M k).addr = (gm M i).addr) : okUp M (i + 1) = false := by
  unfold okUp
  cases e : fnd (dvs M) i (gm M i).addr with
  | some j => simp
  | none =>
    exfalso
    have : ∀ n, fnd (dvs M) n (gm M i).addr = none → ∀ j, j < n → (dvs M j).addr ≠ (gm M i).addr := by
      intro n
      induction n with
      | zero => intro _ j hj; omega
      | succ n ih =>
        intro hn j hj
        unfold fnd at hn
        cases e2 : fnd (dvs M) n (gm M i).addr with
        | some q => rw [e2] at hn; cases hn
        | none =>
          rw [e2] at hn
          simp only at hn
          split at hn
          · cases hn
          · by_cases ej : j = n
            · rw [ej]; assumption
            · exact ih e2 j (by omega)
    exact this i e k hk h
set_option maxRecDepth 20000 in
set_option maxHeartbeats 8000000 in
theorem may_any (w : World) (a : Option Addr) (M : List Md) (c : Nat) (a2 : Option Addr) (F : List Flt) (c2 : Nat) (hM : MRs w a M) (hl : M.length ≤ maxLen) (hF : FRs w a2 F) (hl2 : F.length ≤ maxLen) :
    Calls Try.prog 7 #[.slice a M.length c, .slice a2 F.length c2] w fun e w' => e = .returned (.bool (okMs M && okFs F)) ∧ Ext w w' := by
  unfold maxLen at hl hl2
  have HM : Hid (∀ wr, Ext w wr → MRs wr a M) := fun wr x => hM.ext x
  have HF : Hid (∀ wr, Ext w wr → FRs wr a2 F) := fun wr x => hF.ext x
  have HIN : Hid (∀ x a b w, Calls Try.prog 26 #[.int .i64 x, .int .i64 a, .int .i64 b] w fun e w' => e = .returned (.bool (inn x a b)) ∧ w' = w) := in_any
  clear hM hF
  by_cases h8 : M.length ≤ 8
  · have h8i : ¬ (8 : Int) < (M.length : Int) := by omega
    have h8b : decide ((8 : Int) < (M.length : Int)) = false := by simpa using h8i
    have exM : Hid (okMs M = okUp M M.length) := by show _ = _; unfold okMs; simp [h8]
    by_cases h9 : F.length ≤ 4096
    · have h9i : ¬ (4096 : Int) < (F.length : Int) := by omega
      have h9b : decide ((4096 : Int) < (F.length : Int)) = false := by simpa using h9i
      have exF : Hid (okFs F = F.all okF) := by show _ = _; unfold okFs; simp [h9]
      have HBAD : Hid (∀ i, i < M.length → okUp M (i + 1) = false → (okMs M && okFs F) = false) := fun i hi h => by rw [exM.out, okUp_false M h (by omega)]; rfl
      go_enter Try.func7, Try.ntmps7
      go_wp2_with fail
      go_loopw [5, 6, 7] (fun i _ _ wr => ∃ k : Nat, k ≤ M.length ∧ i = .int .i64 k ∧ Hid (Ext w wr ∧ okUp M k = true)) (fun i _ _ _ => M.length - (intOf i).toNat)
      case atStart => exact ⟨0, Nat.zero_le _, rfl, Ext.refl _, rfl⟩
      case round =>
        obtain ⟨i, hi, rfl, hR⟩ := hrel
        by_cases hlt : i < M.length
        · have hlti : (i : Int) < (M.length : Int) := by omega
          obtain ⟨b1, o1, la, lc, rfl, ⟨k0, k1, k2⟩, hlr, hll⟩ := HM.out _ hR.out.1 i hlt
          have HX : Hid (∀ w, Calls Try.prog 26 #[.int .i64 (gm M i).addr, .int .i64 0, .int .i64 127] w fun e w' => e = .returned (.bool (inn (gm M i).addr 0 127)) ∧ w' = w) := in_any _ _ _
          have HY : Hid (∀ w, Calls Try.prog 26 #[.int .i64 (gm M i).id, .int .i64 0, .int .i64 255] w fun e w' => e = .returned (.bool (inn (gm M i).id 0 255)) ∧ w' = w) := in_any _ _ _
          have ex : Hid (okM (gm M i) = (inn (gm M i).addr 0 127 && inn (gm M i).id 0 255 && (decide ((gm M i).list.length ≤ 4096) && (gm M i).list.all okR))) := rfl
          have HB2 : Hid (okM (gm M i) = false → (okMs M && okFs F) = false) := fun h => HBAD.out i hlt (okUp_bad M h)
          have HM2 : Hid (∀ wi, Ext wr wi → M3 wi b1 (o1 + i * 3) (gm M i) la lc ∧ LR wi la (gm M i).list) := fun wi x => ⟨M3.ext ⟨k0, k1, k2⟩ x, hlr.ext x⟩
          have HM3 : Hid (∀ wr, Ext w wr → ∀ k, k < M.length → wr.cell? ⟨b1, o1 + k * 3, none⟩ = some (.int .i64 (gm M k).addr)) := fun wr x k hk => by
            obtain ⟨b', off', la', lc', e', m', r', _⟩ := HM.out _ x k hk
            cases e'
            exact m'.1
          have HT : Hid (∀ wr, Ext w wr → okM (gm M i) = true → (∀ k, k < i → (gm M k).addr ≠ (gm M i).addr) → Ext w wr ∧ okUp M (i + 1) = true) := fun wr x h2 h3 => ⟨x, okUp_step M hR.out.2 h2 h3⟩
          have HT2 : Hid (∀ k, k < i → (gm M k).addr = (gm M i).addr → (okMs M && okFs F) = false) := fun k hk h => HBAD.out i hlt (okUp_two M hk h)
          have HX0 : Hid (Ext w wr) := hR.out.1
          clear hR hlr
          generalize gm M i = m at *
          obtain ⟨addr, id, list⟩ := m
          simp only at *
          cases h2 : inn addr 0 127 <;> rw [h2] at HX
          · have e : Hid ((okMs M && okFs F) = false) := HB2.out (by rw [ex.out, h2]; rfl)
            clear h2
            go_wp2_with (go_at_call_of 26 (Value.int IntKind.i64 127); refine (HX.out _).mono ?_; rintro e w' ⟨rfl, rfl⟩)
            go_ret
            rw [e.out]
            exact ⟨rfl, HX0.out⟩
          cases h3 : inn id 0 255 <;> rw [h3] at HY
          · have e : Hid ((okMs M && okFs F) = false) := HB2.out (by rw [ex.out, h2, h3]; rfl)
            clear h2 h3
            go_wp2_with (first | (go_at_call_of 26 (Value.int IntKind.i64 127); refine (HX.out _).mono ?_; rintro e w' ⟨rfl, rfl⟩) | (go_at_call_of 26 (Value.int IntKind.i64 255); refine (HY.out _).mono ?_; rintro e w' ⟨rfl, rfl⟩))
            go_ret
            rw [e.out]
            exact ⟨rfl, HX0.out⟩
          by_cases h4 : list.length ≤ 4096
          · have h4i : ¬ (4096 : Int) < (list.length : Int) := by omega
            have h4b : decide ((4096 : Int) < (list.length : Int)) = false := by simpa using h4i
            have eok : Hid (okM ⟨addr, id, list⟩ = list.all okR) := by show _ = _; rw [ex.out, h2, h3]; simp [h4]
            clear h2 h3 ex
            go_wp2_with (first | (go_at_call_of 26 (Value.int IntKind.i64 127); refine (HX.out _).mono ?_; rintro e w' ⟨rfl, rfl⟩) | (go_at_call_of 26 (Value.int IntKind.i64 255); refine (HY.out _).mono ?_; rintro e w' ⟨rfl, rfl⟩))
            clear k0 k1 k2 HX HY
            go_loopw [6] (fun k wi => ∃ t : Nat, t ≤ list.length ∧ k = .int .i64 t ∧ Hid (Ext w' wi ∧ ∀ j, j < t → okR (smp list j) = true)) (fun k _ => list.length - (intOf k).toNat)
            case atStart => exact ⟨0, Nat.zero_le _, rfl, Ext.refl _, fun j hj => absurd hj (Nat.not_lt_zero _)⟩
            case round =>
              obtain ⟨t, ht, rfl, hQ⟩ := hrel
              obtain ⟨⟨k0, k1, k2⟩, hlr⟩ := HM2.out _ hQ.out.1
              by_cases htl : t < list.length
              · have htli : (t : Int) < (list.length : Int) := by omega
                obtain ⟨b2, o2, rfl, i0, i1, i2, i3⟩ := hlr t htl
                have HW := mayraw_any (smp list t) wr
                cases hb : okR (smp list t) <;> rw [hb] at HW
                · have e : Hid ((okMs M && okFs F) = false) := HB2.out (by rw [eok.out]; exact all_not list htl hb)
                  clear hb hlr
                  generalize smp list t = yy at *
                  go_wp2_with (go_at_call 27; refine HW.mono ?_; rintro e w2 ⟨rfl, x2⟩)
                  go_ret
                  rw [e.out]
                  exact ⟨rfl, (HX0.out.trans hQ.out.1).trans x2⟩
                · have HO : Hid (∀ j, j < t + 1 → okR (smp list j) = true) := fun j hj => by
                    by_cases ej : j = t
                    · rw [ej]; exact hb
                    · exact hQ.out.2 j (by omega)
                  clear hb hlr
                  generalize smp list t = yy at *
                  go_wp2_with (go_at_call 27; refine HW.mono ?_; rintro e w2 ⟨rfl, x2⟩)
                  have R2 : Hid (Ext w' w2) := hQ.out.1.trans x2
                  go_roundw
                  case measure => simp [intOf]; omega
                  case rel => exact ⟨t + 1, by omega, by simp, R2.out, HO.out⟩
              · have htli : ¬ (t : Int) < (list.length : Int) := by omega
                have hall : Hid (okM ⟨addr, id, list⟩ = true) := by show _ = _; rw [eok.out]; exact (all_smp list).2 (fun j hj => hQ.out.2 j (by omega))
                go_wp2_with fail
                have HX1 : Hid (Ext w' wr) := hQ.out.1
                clear k0 k1 k2 hlr hQ
                go_loopw [7] (fun k wi => ∃ t : Nat, t ≤ i ∧ k = .int .i64 t ∧ Hid (Ext wr wi ∧ ∀ j, j < t → (gm M j).addr ≠ addr)) (fun k _ => i - (intOf k).toNat)
                case atStart => exact ⟨0, Nat.zero_le _, rfl, Ext.refl _, fun j hj => absurd hj (Nat.not_lt_zero _)⟩
                case round =>
                  obtain ⟨t2, ht2, rfl, hP⟩ := hrel
                  have xq : Ext w' wr := HX1.out.trans hP.out.1
                  have xw : Ext w wr := HX0.out.trans xq
                  by_cases h2l : t2 < i
                  · have h2li : (t2 : Int) < (i : Int) := by omega
                    have h2m : (t2 : Int) < (M.length : Int) := by omega
                    have ci := (HM2.out _ xq).1.1
                    have ct := HM3.out _ xw t2 (by omega)
                    dsimp only at ci
                    by_cases ha : (gm M t2).addr = addr
                    · have e : Hid ((okMs M && okFs F) = false) := HT2.out t2 h2l ha
                      rw [ha] at ct
                      clear ha
                      go_upto_region 16 with fail
                      go_quiet (fail)
                      go_wp2_with fail
                      go_ret
                      rw [e.out]
                      exact ⟨rfl, xw.trans (drewN_ext nq)⟩
                    · have hab : ((gm M t2).addr == addr) = false := by simpa using ha
                      have R2 : Hid (∀ j, j < t2 + 1 → (gm M j).addr ≠ addr) := fun j hj => by
                        by_cases ej : j = t2
                        · rw [ej]; exact ha
                        · exact hP.out.2 j (by omega)
                      have R3 : Hid (∀ n, Ext _ (wr.drewN n)) := fun n => hP.out.1.trans (drewN_ext n)
                      clear xq xw
                      generalize (gm M t2).addr = at2 at *
                      go_upto_region 16 with fail
                      go_quiet (fail)
                      go_wp2_with fail
                      go_roundw
                      case measure => simp [intOf]; omega
                      case rel => exact ⟨t2 + 1, by omega, by simp, R3.out nq, R2.out⟩
                  · have h2li : ¬ (t2 : Int) < (i : Int) := by omega
                    have R9 : Hid (Ext w wr ∧ okUp M (i + 1) = true) := HT.out wr xw hall.out (fun k hk => hP.out.2 k (by omega))
                    clear xq xw
                    go_wp2_with fail
                    go_roundw
                    case measure => simp [intOf]; omega
                    case rel => exact ⟨i + 1, by omega, by simp, R9⟩
          · have h4i : (4096 : Int) < (list.length : Int) := by omega
            have e : Hid ((okMs M && okFs F) = false) := HB2.out (by rw [ex.out, h2, h3]; simp [h4])
            clear h2 h3
            go_wp2_with (first | (go_at_call_of 26 (Value.int IntKind.i64 127); refine (HX.out _).mono ?_; rintro e w' ⟨rfl, rfl⟩) | (go_at_call_of 26 (Value.int IntKind.i64 255); refine (HY.out _).mono ?_; rintro e w' ⟨rfl, rfl⟩))
            go_ret
            rw [e.out]
            exact ⟨rfl, HX0.out⟩
        · have hlti : ¬ (i : Int) < (M.length : Int) := by omega
          have HU : Hid (okMs M = true) := by show _ = _; rw [exM.out]; have : i = M.length := by omega
                                              rw [← this]; exact hR.out.2
          have HX0 : Hid (Ext w wr) := hR.out.1
          clear hR
          go_wp2_with fail
          go_loopw [8] (fun i wi => ∃ k : Nat, k ≤ F.length ∧ i = .int .i64 k ∧ Hid (Ext w wi ∧ ∀ j, j < k → okF (gf F j) = true)) (fun i _ => F.length - (intOf i).toNat)
          case atStart => exact ⟨0, Nat.zero_le _, rfl, HX0.out, fun j hj => absurd hj (Nat.not_lt_zero _)⟩
          case round =>
            obtain ⟨k, hk, rfl, hR⟩ := hrel
            by_cases hkl : k < F.length
            · have hkli : (k : Int) < (F.length : Int) := by omega
              obtain ⟨b2, o2, rfl, k0, k1, k2, k3⟩ := HF.out _ hR.out.1 k hkl
              have exf : Hid (okF (gf F k) = (inn (gf F k).kind 1 3 && (decide (1 ≤ (gf F k).at_) && decide (0 ≤ (gf F k).idx)))) := rfl
              have HK : Hid (∀ w, Calls Try.prog 26 #[.int .i64 (gf F k).kind, .int .i64 1, .int .i64 3] w fun e w' => e = .returned (.bool (inn (gf F k).kind 1 3)) ∧ w' = w) := in_any _ _ _
              have HBF : Hid (okF (gf F k) = false → (okMs M && okFs F) = false) := fun h => by rw [exF.out, all_gf_not F hkl h]; simp
              have HGF : Hid (okF (gf F k) = true → ∀ j, j < k + 1 → okF (gf F j) = true) := fun h j hj => by
                by_cases ej : j = k
                · rw [ej]; exact h
                · exact hR.out.2 j (by omega)
              have HX1 : Hid (Ext w wr) := hR.out.1
              clear hR
              generalize gf F k = f at *
              obtain ⟨f0, f1, f2, f3⟩ := f
              simp only at *
              by_cases h1 : 1 ≤ f0
              · have h1i : ¬ f0 < 1 := by omega
                have h1b : decide (f0 < 1) = false := by simpa using h1i
                cases h2 : inn f1 1 3 <;> rw [h2] at HK
                · have e : Hid ((okMs M && okFs F) = false) := HBF.out (by rw [exf.out, h2]; rfl)
                  clear h2
                  go_wp2_with (go_at_call 26; refine (HK.out _).mono ?_; rintro e w' ⟨rfl, rfl⟩)
                  go_ret
                  rw [e.out]
                  exact ⟨rfl, HX1.out⟩
                · by_cases h3 : 0 ≤ f2
                  · have h3i : ¬ f2 < 0 := by omega
                    have h3b : decide (f2 < 0) = false := by simpa using h3i
                    have R2 : Hid (∀ j, j < k + 1 → okF (gf F j) = true) := HGF.out (by rw [exf.out, h2]; simp [h1, h3])
                    clear h2
                    go_wp2_with (go_at_call 26; refine (HK.out _).mono ?_; rintro e w' ⟨rfl, rfl⟩)
                    go_roundw
                    case measure => simp [intOf]; omega
                    case rel => exact ⟨k + 1, by omega, by simp, HX1.out, R2.out⟩
                  · have h3i : f2 < 0 := by omega
                    have e : Hid ((okMs M && okFs F) = false) := HBF.out (by rw [exf.out, h2]; simp [h3])
                    clear h2
                    go_wp2_with (go_at_call 26; refine (HK.out _).mono ?_; rintro e w' ⟨rfl, rfl⟩)
                    go_ret
                    rw [e.out]
                    exact ⟨rfl, HX1.out⟩
              · have h1i : f0 < 1 := by omega
                have e : Hid ((okMs M && okFs F) = false) := HBF.out (by rw [exf.out]; simp [h1])
                go_wp2_with fail
                go_ret
                rw [e.out]
                exact ⟨rfl, HX1.out⟩
            · have hkli : ¬ (k : Int) < (F.length : Int) := by omega
              have e : Hid ((okMs M && okFs F) = true) := by
                show _ = _
                rw [HU.out, exF.out, (all_gf F).2 (fun j hj => hR.out.2 j (by omega))]; rfl
              go_wp2_with fail
              go_ret
              rw [e.out]
              exact ⟨rfl, hR.out.1⟩
    · have h9i : (4096 : Int) < (F.length : Int) := by omega
      have e : Hid ((okMs M && okFs F) = false) := by show _ = _; unfold okFs; simp [h9]
      go_enter Try.func7, Try.ntmps7
      go_wp2_with fail
      go_ret
      rw [e.out]
      exact ⟨rfl, Ext.refl _⟩
  · have h8i : (8 : Int) < (M.length : Int) := by omega
    have e : Hid ((okMs M && okFs F) = false) := by show _ = _; unfold okMs; simp [h8]
    go_enter Try.func7, Try.ntmps7
    go_wp2_with fail
    go_ret
    rw [e.out]
    exact ⟨rfl, Ext.refl _⟩
end Go.Proofs.Ytfgljkeohoffiaa
