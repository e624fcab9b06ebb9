/- QuatExact: its walk. -/
import Derived.Test.YtfmalpnlencmbaaGreatQEx0mp
namespace Go.Proofs.YtfmalpnlencmbaaGreat
open Go.RowKit Go.Shelf
set_option maxRecDepth 20000 in
set_option maxHeartbeats 40000000 in
theorem quats_any (b off len cap : Nat) (Z : Nat → Nat → Int) (w : World) (hl : len ≤ maxLen) (hc : Twos4 w b off len Z) :
    Calls Tryz.prog 4 #[.slice (some ⟨b, off, none⟩) len cap] w fun e w' => e = .returned (.bool true) ∧ Ext w w' := by
  have hl' : len ≤ 9223372036854775807 := by unfold maxLen at hl; omega
  clear hl
  go_enter Tryz.func4, Tryz.ntmps4
  go_wp2_with fail
  go_loopw [3] (fun i wr => ∃ k : Nat, k ≤ len ∧ i = .int .i64 k ∧ Hid (Ext w wr)) (fun i _ => len - (intOf i).toNat)
  case atStart => exact ⟨0, Nat.zero_le _, rfl, Ext.refl _⟩
  case round =>
    obtain ⟨k, hk, rfl, FX⟩ := hrel
    by_cases hlt : k < len
    · by_cases h5 : k < 12
      · skip
        obtain ⟨c0, n0a, n0b⟩ := (hc.ext FX.out) k hlt 0 (by omega)
        obtain ⟨c1, n1a, n1b⟩ := (hc.ext FX.out) k hlt 1 (by omega)
        obtain ⟨c2, n2a, n2b⟩ := (hc.ext FX.out) k hlt 2 (by omega)
        obtain ⟨c3, n3a, n3b⟩ := (hc.ext FX.out) k hlt 3 (by omega)
        obtain ⟨c4, n4a, n4b⟩ := (hc.ext FX.out) k hlt 4 (by omega)
        obtain ⟨c5, n5a, n5b⟩ := (hc.ext FX.out) k hlt 5 (by omega)
        obtain ⟨c6, n6a, n6b⟩ := (hc.ext FX.out) k hlt 6 (by omega)
        obtain ⟨c7, n7a, n7b⟩ := (hc.ext FX.out) k hlt 7 (by omega)
        obtain ⟨c8, n8a, n8b⟩ := (hc.ext FX.out) k hlt 8 (by omega)
        obtain ⟨c9, n9a, n9b⟩ := (hc.ext FX.out) k hlt 9 (by omega)
        obtain ⟨c10, n10a, n10b⟩ := (hc.ext FX.out) k hlt 10 (by omega)
        obtain ⟨c11, n11a, n11b⟩ := (hc.ext FX.out) k hlt 11 (by omega)
        obtain ⟨c12, n12a, n12b⟩ := (hc.ext FX.out) k hlt 12 (by omega)
        obtain ⟨c13, n13a, n13b⟩ := (hc.ext FX.out) k hlt 13 (by omega)
        rw [Nat.add_zero] at c0
        have hlt' : (k : Int) < (len : Int) := by omega
        clear hc
        generalize Z k = z at *
        obtain ⟨bA, bB, bV, o1, o2, o3, ea, eu, en, et, eb, A0, A1, A2, A3, C0, C1, C2, C3, U0, U1, U2, U3, T0, T1, T2, B0, B1, B2, S0, S1, S2, S3, X0, X1, X2, X3, MA, DA, MB, DB, MV, DV, CK, PA, IA, PC, IC, PU, IU, PN, PT, IT, PB, IB, R2, R1, R3⟩ := qex_told z ⟨n1a, n1b⟩ ⟨n2a, n2b⟩ ⟨n3a, n3b⟩
        clear n0a n0b n1a n1b n2a n2b n3a n3b n4a n4b n5a n5b n6a n6b n7a n7b n8a n8b n9a n9b n10a n10b n11a n11b n12a n12b n13a n13b
        have MA : Hid ((∀ w, Calls Tryz.prog 26 #[.agg #[.int .i64 (z 0), .int .i64 (z 1), .int .i64 (z 2), .int .i64 (z 3)]] w fun e w' => e = .returned (.bool bA) ∧ Ext w w')) := MA
        have DA : Hid ((bA = true ∧ o1 = 0 ∨ bA = false ∧ o1 = 1)) := DA
        have MB : Hid ((∀ w, Calls Tryz.prog 26 #[.agg #[.int .i64 (z 4), .int .i64 (z 5), .int .i64 (z 6), .int .i64 (z 7)]] w fun e w' => e = .returned (.bool bB) ∧ Ext w w')) := MB
        have DB : Hid ((bB = true ∧ o2 = o1 ∨ bB = false ∧ o2 = 1)) := DB
        have MV : Hid ((∀ w, Calls Tryz.prog 6 #[.agg #[.int .i64 (z 8), .int .i64 (z 9), .int .i64 (z 10)]] w fun e w' => e = .returned (.bool bV) ∧ Ext w w')) := MV
        have DV : Hid ((bV = true ∧ o3 = o1 ∨ bV = false ∧ o3 = 1)) := DV
        have CK : Hid ((∀ w, Calls Tryz.prog 36 #[.agg #[.int .i64 (z 0), .int .i64 (z 1), .int .i64 (z 2), .int .i64 (z 3)]] w fun e w' => e = .returned (.int .i64 o1) ∧ Ext w w')) := CK
        have PA : Hid ((∀ w, Calls Tryz.prog 34 #[.agg #[.int .i64 (z 0), .int .i64 (z 1), .int .i64 (z 2), .int .i64 (z 3)], .agg #[.int .i64 (z 4), .int .i64 (z 5), .int .i64 (z 6), .int .i64 (z 7)]] w fun e w' => e = .returned (.tuple #[.agg #[.int .i64 A0, .int .i64 A1, .int .i64 A2, .int .i64 A3], .int .i64 ea]) ∧ Ext w w')) := PA
        have IA : Hid ((∀ w, Calls Tryz.prog 37 #[.agg #[.int .i64 A0, .int .i64 A1, .int .i64 A2, .int .i64 A3], .int .i64 ea, .agg #[.int .i64 A0, .int .i64 A1, .int .i64 A2, .int .i64 A3], .int .i64 ea] w fun e w' => e = .returned (.bool true) ∧ Ext w w')) := IA
        have PC : Hid ((∀ w, Calls Tryz.prog 38 #[.agg #[.int .i64 (z 0), .int .i64 (z 1), .int .i64 (z 2), .int .i64 (z 3)]] w fun e w' => e = .returned (.tuple #[.agg #[.int .i64 C0, .int .i64 C1, .int .i64 C2, .int .i64 C3], .int .i64 o1]) ∧ Ext w w')) := PC
        have IC : Hid ((∀ w, Calls Tryz.prog 37 #[.agg #[.int .i64 C0, .int .i64 C1, .int .i64 C2, .int .i64 C3], .int .i64 o1, .agg #[.int .i64 C0, .int .i64 C1, .int .i64 C2, .int .i64 C3], .int .i64 o1] w fun e w' => e = .returned (.bool true) ∧ Ext w w')) := IC
        have PU : Hid ((∀ w, Calls Tryz.prog 39 #[.agg #[.int .i64 (z 0), .int .i64 (z 1), .int .i64 (z 2), .int .i64 (z 3)]] w fun e w' => e = .returned (.tuple #[.agg #[.int .i64 U0, .int .i64 U1, .int .i64 U2, .int .i64 U3], .int .i64 eu]) ∧ Ext w w')) := PU
        have IU : Hid ((∀ w, Calls Tryz.prog 37 #[.agg #[.int .i64 U0, .int .i64 U1, .int .i64 U2, .int .i64 U3], .int .i64 eu, .agg #[.int .i64 U0, .int .i64 U1, .int .i64 U2, .int .i64 U3], .int .i64 eu] w fun e w' => e = .returned (.bool true) ∧ Ext w w')) := IU
        have PN : Hid ((∀ w, Calls Tryz.prog 40 #[.agg #[.int .i64 (z 0), .int .i64 (z 1), .int .i64 (z 2), .int .i64 (z 3)]] w fun e w' => e = .returned (.tuple #[.int .i64 S0, .int .i64 en]) ∧ Ext w w')) := PN
        have PT : Hid ((∀ w, Calls Tryz.prog 41 #[.agg #[.int .i64 (z 0), .int .i64 (z 1), .int .i64 (z 2), .int .i64 (z 3)], .agg #[.int .i64 (z 8), .int .i64 (z 9), .int .i64 (z 10)]] w fun e w' => e = .returned (.tuple #[.agg #[.int .i64 T0, .int .i64 T1, .int .i64 T2], .int .i64 et]) ∧ Ext w w')) := PT
        have IT : Hid ((∀ w, Calls Tryz.prog 42 #[.agg #[.int .i64 T0, .int .i64 T1, .int .i64 T2], .int .i64 et, .agg #[.int .i64 T0, .int .i64 T1, .int .i64 T2], .int .i64 et] w fun e w' => e = .returned (.bool true) ∧ Ext w w')) := IT
        have PB : Hid ((∀ w, Calls Tryz.prog 43 #[.agg #[.int .i64 (z 0), .int .i64 (z 1), .int .i64 (z 2), .int .i64 (z 3)], .agg #[.int .i64 (z 8), .int .i64 (z 9), .int .i64 (z 10)]] w fun e w' => e = .returned (.tuple #[.agg #[.int .i64 B0, .int .i64 B1, .int .i64 B2], .int .i64 eb]) ∧ Ext w w')) := PB
        have IB : Hid ((∀ w, Calls Tryz.prog 42 #[.agg #[.int .i64 B0, .int .i64 B1, .int .i64 B2], .int .i64 eb, .agg #[.int .i64 B0, .int .i64 B1, .int .i64 B2], .int .i64 eb] w fun e w' => e = .returned (.bool true) ∧ Ext w w')) := IB
        have R2 : Hid ((o2 = 0 ∧ (∀ w, Calls Tryz.prog 27 #[.agg #[.int .i64 (z 0), .int .i64 (z 1), .int .i64 (z 2), .int .i64 (z 3)], .agg #[.int .i64 (z 4), .int .i64 (z 5), .int .i64 (z 6), .int .i64 (z 7)]] w fun e w' => e = .returned (.tuple #[.agg #[.int .i64 A0, .int .i64 A1, .int .i64 A2, .int .i64 A3], .int .i64 ea]) ∧ Ext w w') ∨ o2 = 1 ∧ (A0 = 0 ∧ A1 = 0 ∧ A2 = 0 ∧ A3 = 0 ∧ ea = 1))) := R2
        have R1 : Hid ((o1 = 0 ∧ (∀ w, Calls Tryz.prog 28 #[.agg #[.int .i64 (z 0), .int .i64 (z 1), .int .i64 (z 2), .int .i64 (z 3)]] w fun e w' => e = .returned (.agg #[.int .i64 C0, .int .i64 C1, .int .i64 C2, .int .i64 C3]) ∧ Ext w w') ∧ (∀ w, Calls Tryz.prog 29 #[.agg #[.int .i64 (z 0), .int .i64 (z 1), .int .i64 (z 2), .int .i64 (z 3)]] w fun e w' => e = .returned (.tuple #[.agg #[.int .i64 U0, .int .i64 U1, .int .i64 U2, .int .i64 U3], .int .i64 eu]) ∧ Ext w w') ∧ (∀ w, Calls Tryz.prog 31 #[.agg #[.int .i64 (z 0), .int .i64 (z 1), .int .i64 (z 2), .int .i64 (z 3)], .agg #[.int .i64 C0, .int .i64 C1, .int .i64 C2, .int .i64 C3]] w fun e w' => (∃ r, e = .returned r ∧ IsFour w' r X0 X1 X2 X3) ∧ Ext w w') ∧ (∀ v w, IsFour w v X0 X1 X2 X3 → Calls Tryz.prog 30 #[v, .int .i64 30] w fun e' w' => e' = .returned (.tuple #[.agg #[.int .i64 S0, .int .i64 S1, .int .i64 S2, .int .i64 S3], .int .i64 en]) ∧ Ext w w') ∨ o1 = 1 ∧ (C0 = 0 ∧ C1 = 0 ∧ C2 = 0 ∧ C3 = 0) ∧ (U0 = 0 ∧ U1 = 0 ∧ U2 = 0 ∧ U3 = 0 ∧ eu = 1) ∧ S0 = 0 ∧ en = 1)) := R1
        have R3 : Hid ((o3 = 0 ∧ (∀ w, Calls Tryz.prog 32 #[.agg #[.int .i64 (z 0), .int .i64 (z 1), .int .i64 (z 2), .int .i64 (z 3)], .agg #[.int .i64 (z 8), .int .i64 (z 9), .int .i64 (z 10)]] w fun e w' => e = .returned (.tuple #[.agg #[.int .i64 T0, .int .i64 T1, .int .i64 T2], .int .i64 et]) ∧ Ext w w') ∧ (∀ w, Calls Tryz.prog 33 #[.agg #[.int .i64 (z 0), .int .i64 (z 1), .int .i64 (z 2), .int .i64 (z 3)], .agg #[.int .i64 (z 8), .int .i64 (z 9), .int .i64 (z 10)]] w fun e w' => e = .returned (.tuple #[.agg #[.int .i64 B0, .int .i64 B1, .int .i64 B2], .int .i64 eb]) ∧ Ext w w') ∨ o3 = 1 ∧ (T0 = 0 ∧ T1 = 0 ∧ T2 = 0 ∧ et = 1) ∧ (B0 = 0 ∧ B1 = 0 ∧ B2 = 0 ∧ eb = 1))) := R3
        go_upto_region 5 with fail
        clear c0 c1 c2 c3 c4 c5 c6 c7 c8 c9 c10 c11 c12 c13
        have Lp : Hid (w.heap.size ≤ wr.heap.size) := FX.out.size
        have Fp : Hid (HV (wr.alloc (.cells #[.int .i64 (z 0), .int .i64 (z 1), .int .i64 (z 2), .int .i64 (z 3), .int .i64 (z 4), .int .i64 (z 5), .int .i64 (z 6), .int .i64 (z 7), .int .i64 (z 8), .int .i64 (z 9), .int .i64 (z 10), .int .i64 (z 11), .int .i64 (z 12), .int .i64 (z 13)] 51)) wr.heap.size [.int .i64 (z 0), .int .i64 (z 1), .int .i64 (z 2), .int .i64 (z 3), .int .i64 (z 4), .int .i64 (z 5), .int .i64 (z 6), .int .i64 (z 7), .int .i64 (z 8), .int .i64 (z 9), .int .i64 (z 10), .int .i64 (z 11), .int .i64 (z 12), .int .i64 (z 13)]) := hv_at rfl
        have FX : Hid (Ext w (wr.alloc (.cells #[.int .i64 (z 0), .int .i64 (z 1), .int .i64 (z 2), .int .i64 (z 3), .int .i64 (z 4), .int .i64 (z 5), .int .i64 (z 6), .int .i64 (z 7), .int .i64 (z 8), .int .i64 (z 9), .int .i64 (z 10), .int .i64 (z 11), .int .i64 (z 12), .int .i64 (z 13)] 51))) := FX.out.alloc _
        generalize (wr.alloc (.cells #[.int .i64 (z 0), .int .i64 (z 1), .int .i64 (z 2), .int .i64 (z 3), .int .i64 (z 4), .int .i64 (z 5), .int .i64 (z 6), .int .i64 (z 7), .int .i64 (z 8), .int .i64 (z 9), .int .i64 (z 10), .int .i64 (z 11), .int .i64 (z 12), .int .i64 (z 13)] 51)) = wx1 at *
        generalize wr.heap.size = np at *
        have qp0 : wx1.cell? ⟨np, 0, none⟩ = some (.int .i64 (z 0)) := Fp.out.c 0 rfl
        have qp1 : wx1.cell? ⟨np, 1, none⟩ = some (.int .i64 (z 1)) := Fp.out.c 1 rfl
        have qp2 : wx1.cell? ⟨np, 2, none⟩ = some (.int .i64 (z 2)) := Fp.out.c 2 rfl
        have qp3 : wx1.cell? ⟨np, 3, none⟩ = some (.int .i64 (z 3)) := Fp.out.c 3 rfl
        go_upto_if 41 with (go_at_call 26; refine (MA.out _).mono ?_; rintro e wm41 ⟨rfl, xm⟩)
        have Fp : Hid (HV wm41 np [.int .i64 (z 0), .int .i64 (z 1), .int .i64 (z 2), .int .i64 (z 3), .int .i64 (z 4), .int .i64 (z 5), .int .i64 (z 6), .int .i64 (z 7), .int .i64 (z 8), .int .i64 (z 9), .int .i64 (z 10), .int .i64 (z 11), .int .i64 (z 12), .int .i64 (z 13)]) := Fp.out.ext xm
        have FX : Hid (Ext w wm41) := FX.out.trans xm
        clear xm qp0 qp1 qp2 qp3 MA
        go_cut [5] from 24 to 196 (fun v5 wx => v5 = .int .i64 o1 ∧ Hid (Ext wm41 wx))
        case first =>
          as_aux_lemma =>
            clear MB DB MV DV CK PA IA PC IC PU IU PN PT IT PB IB R2 R1 R3
            rcases DA.out with ⟨rfl, rfl⟩ | ⟨rfl, rfl⟩
            · clear DA
              go_wp2_with fail
              go_meet
              exact ⟨rfl, Ext.refl _⟩
            · clear DA
              go_wp2_with fail
              go_meet
              exact ⟨rfl, Ext.refl _⟩
        case rest =>
          as_aux_lemma =>
            obtain ⟨rfl, hx⟩ := hcut
            have hx := hx.out
            have Fp : Hid (HV wc np [.int .i64 (z 0), .int .i64 (z 1), .int .i64 (z 2), .int .i64 (z 3), .int .i64 (z 4), .int .i64 (z 5), .int .i64 (z 6), .int .i64 (z 7), .int .i64 (z 8), .int .i64 (z 9), .int .i64 (z 10), .int .i64 (z 11), .int .i64 (z 12), .int .i64 (z 13)]) := Fp.out.ext hx
            have FX : Hid (Ext w wc) := FX.out.trans hx
            clear hx DA
            generalize wc = wx2 at *
            have qp4 : wx2.cell? ⟨np, 4, none⟩ = some (.int .i64 (z 4)) := Fp.out.c 4 rfl
            have qp5 : wx2.cell? ⟨np, 5, none⟩ = some (.int .i64 (z 5)) := Fp.out.c 5 rfl
            have qp6 : wx2.cell? ⟨np, 6, none⟩ = some (.int .i64 (z 6)) := Fp.out.c 6 rfl
            have qp7 : wx2.cell? ⟨np, 7, none⟩ = some (.int .i64 (z 7)) := Fp.out.c 7 rfl
            go_upto_if 46 with (go_at_call 26; refine (MB.out _).mono ?_; rintro e wm46 ⟨rfl, xm⟩)
            have Fp : Hid (HV wm46 np [.int .i64 (z 0), .int .i64 (z 1), .int .i64 (z 2), .int .i64 (z 3), .int .i64 (z 4), .int .i64 (z 5), .int .i64 (z 6), .int .i64 (z 7), .int .i64 (z 8), .int .i64 (z 9), .int .i64 (z 10), .int .i64 (z 11), .int .i64 (z 12), .int .i64 (z 13)]) := Fp.out.ext xm
            have FX : Hid (Ext w wm46) := FX.out.trans xm
            clear xm qp4 qp5 qp6 qp7 MB
            go_cut [6] from 24 to 196 (fun v6 wx => v6 = .int .i64 o2 ∧ Hid (Ext wm46 wx))
            case first =>
              as_aux_lemma =>
                clear MV DV CK PA IA PC IC PU IU PN PT IT PB IB R2 R1 R3
                rcases DB.out with ⟨rfl, rfl⟩ | ⟨rfl, rfl⟩
                · clear DB
                  go_wp2_with fail
                  go_meet
                  exact ⟨rfl, Ext.refl _⟩
                · clear DB
                  go_wp2_with fail
                  go_meet
                  exact ⟨rfl, Ext.refl _⟩
            case rest =>
              as_aux_lemma =>
                obtain ⟨rfl, hx⟩ := hcut
                have hx := hx.out
                have Fp : Hid (HV wc np [.int .i64 (z 0), .int .i64 (z 1), .int .i64 (z 2), .int .i64 (z 3), .int .i64 (z 4), .int .i64 (z 5), .int .i64 (z 6), .int .i64 (z 7), .int .i64 (z 8), .int .i64 (z 9), .int .i64 (z 10), .int .i64 (z 11), .int .i64 (z 12), .int .i64 (z 13)]) := Fp.out.ext hx
                have FX : Hid (Ext w wc) := FX.out.trans hx
                clear hx DB
                generalize wc = wx3 at *
                have qp8 : wx3.cell? ⟨np, 8, none⟩ = some (.int .i64 (z 8)) := Fp.out.c 8 rfl
                have qp9 : wx3.cell? ⟨np, 9, none⟩ = some (.int .i64 (z 9)) := Fp.out.c 9 rfl
                have qp10 : wx3.cell? ⟨np, 10, none⟩ = some (.int .i64 (z 10)) := Fp.out.c 10 rfl
                go_upto_if 54 with (go_at_call 6; refine (MV.out _).mono ?_; rintro e wm54 ⟨rfl, xm⟩)
                have Fp : Hid (HV wm54 np [.int .i64 (z 0), .int .i64 (z 1), .int .i64 (z 2), .int .i64 (z 3), .int .i64 (z 4), .int .i64 (z 5), .int .i64 (z 6), .int .i64 (z 7), .int .i64 (z 8), .int .i64 (z 9), .int .i64 (z 10), .int .i64 (z 11), .int .i64 (z 12), .int .i64 (z 13)]) := Fp.out.ext xm
                have FX : Hid (Ext w wm54) := FX.out.trans xm
                clear xm qp8 qp9 qp10 MV
                go_cut [10] from 24 to 196 (fun v10 wx => v10 = .int .i64 o3 ∧ Hid (Ext wm54 wx))
                case first =>
                  as_aux_lemma =>
                    clear CK PA IA PC IC PU IU PN PT IT PB IB R2 R1 R3
                    rcases DV.out with ⟨rfl, rfl⟩ | ⟨rfl, rfl⟩
                    · clear DV
                      go_wp2_with fail
                      go_meet
                      exact ⟨rfl, Ext.refl _⟩
                    · clear DV
                      go_wp2_with fail
                      go_meet
                      exact ⟨rfl, Ext.refl _⟩
                case rest =>
                  as_aux_lemma =>
                    obtain ⟨rfl, hx⟩ := hcut
                    have hx := hx.out
                    have Fp : Hid (HV wc np [.int .i64 (z 0), .int .i64 (z 1), .int .i64 (z 2), .int .i64 (z 3), .int .i64 (z 4), .int .i64 (z 5), .int .i64 (z 6), .int .i64 (z 7), .int .i64 (z 8), .int .i64 (z 9), .int .i64 (z 10), .int .i64 (z 11), .int .i64 (z 12), .int .i64 (z 13)]) := Fp.out.ext hx
                    have FX : Hid (Ext w wc) := FX.out.trans hx
                    clear hx DV
                    generalize wc = wx4 at *
                    go_upto_region 16 with fail
                    go_cut [12, 13, 14] from 24 to 196 (fun v12 v13 v14 wx => ∃ n12 n13 n14 : Nat, v12 = .pointer (some ⟨n12, 0, none⟩) ∧ v13 = .pointer (some ⟨n13, 0, none⟩) ∧ v14 = .pointer (some ⟨n14, 0, none⟩) ∧ Hid (wx4.heap.size ≤ n12 ∧ n12 < n13 ∧ n13 < n14) ∧ Hid (HV wx n12 [.int .i64 0, .int .i64 0, .int .i64 0, .int .i64 0]) ∧ Hid (HV wx n13 [.int .i64 0, .int .i64 0, .int .i64 0, .int .i64 0]) ∧ Hid (HV wx n14 [.int .i64 0, .int .i64 0, .int .i64 0, .int .i64 0]) ∧ Hid (Ext wx4 wx))
                    case first =>
                      as_aux_lemma =>
                        clear CK PA IA PC IC PU IU PN PT IT PB IB R2 R1 R3
                        go_wp2_with fail
                        go_meet
                        exact ⟨wx4.heap.size, wx4.heap.size + 1, wx4.heap.size + 2, rfl, (by first | with_reducible rfl | simp [go_sem]), (by first | with_reducible rfl | simp [go_sem]), (by show _ ∧ _; omega), (HV.alloc (HV.alloc (hv_at rfl) _) _), (HV.alloc (hv_at (by simp [go_sem])) _), (hv_at (by simp [go_sem])), ((((Ext.refl _).alloc _).alloc _).alloc _)⟩
                    case rest =>
                      as_aux_lemma =>
                        obtain ⟨n12, n13, n14, rfl, rfl, rfl, hord, FA, FC, FU, hx⟩ := hcut
                        have hx := hx.out
                        obtain ⟨l12, l13, l14⟩ := hord.out
                        clear hord
                        have ltpA : np < n12 := Nat.lt_of_lt_of_le Fp.out.1 l12
                        have LA : Hid (w.heap.size ≤ n12) := Nat.le_trans FX.out.size l12
                        have LC : Hid (w.heap.size ≤ n13) := Nat.le_trans LA.out (Nat.le_of_lt l13)
                        have LU : Hid (w.heap.size ≤ n14) := Nat.le_trans LC.out (Nat.le_of_lt l14)
                        clear l12
                        have Fp : Hid (HV wc np [.int .i64 (z 0), .int .i64 (z 1), .int .i64 (z 2), .int .i64 (z 3), .int .i64 (z 4), .int .i64 (z 5), .int .i64 (z 6), .int .i64 (z 7), .int .i64 (z 8), .int .i64 (z 9), .int .i64 (z 10), .int .i64 (z 11), .int .i64 (z 12), .int .i64 (z 13)]) := Fp.out.ext hx
                        have FX : Hid (Ext w wc) := FX.out.trans hx
                        clear hx
                        generalize wc = wx5 at *
                        go_upto_region 17 with fail
                        go_cut [15, 16] from 24 to 196 (fun v15 v16 wx => ∃ n15 n16 : Nat, v15 = .pointer (some ⟨n15, 0, none⟩) ∧ v16 = .pointer (some ⟨n16, 0, none⟩) ∧ Hid (wx5.heap.size ≤ n15 ∧ n15 < n16) ∧ Hid (HV wx n15 [.int .i64 0, .int .i64 0, .int .i64 0]) ∧ Hid (HV wx n16 [.int .i64 0, .int .i64 0, .int .i64 0]) ∧ Hid (Ext wx5 wx))
                        case first =>
                          as_aux_lemma =>
                            clear CK PA IA PC IC PU IU PN PT IT PB IB R2 R1 R3
                            go_wp2_with fail
                            go_meet
                            exact ⟨wx5.heap.size, wx5.heap.size + 1, rfl, (by first | with_reducible rfl | simp [go_sem]), (by show _ ∧ _; omega), (HV.alloc (hv_at rfl) _), (hv_at (by simp [go_sem])), (((Ext.refl _).alloc _).alloc _)⟩
                        case rest =>
                          as_aux_lemma =>
                            obtain ⟨n15, n16, rfl, rfl, hord, FT, FB, hx⟩ := hcut
                            have hx := hx.out
                            obtain ⟨l15, l16⟩ := hord.out
                            clear hord
                            have ltpT : np < n15 := Nat.lt_of_lt_of_le Fp.out.1 l15
                            have ltAT : n12 < n15 := Nat.lt_of_lt_of_le FA.out.1 l15
                            have ltCT : n13 < n15 := Nat.lt_of_lt_of_le FC.out.1 l15
                            have ltUT : n14 < n15 := Nat.lt_of_lt_of_le FU.out.1 l15
                            have LT : Hid (w.heap.size ≤ n15) := Nat.le_trans FX.out.size l15
                            have LB : Hid (w.heap.size ≤ n16) := Nat.le_trans LT.out (Nat.le_of_lt l16)
                            clear l15
                            have Fp : Hid (HV wc np [.int .i64 (z 0), .int .i64 (z 1), .int .i64 (z 2), .int .i64 (z 3), .int .i64 (z 4), .int .i64 (z 5), .int .i64 (z 6), .int .i64 (z 7), .int .i64 (z 8), .int .i64 (z 9), .int .i64 (z 10), .int .i64 (z 11), .int .i64 (z 12), .int .i64 (z 13)]) := Fp.out.ext hx
                            have FA : Hid (HV wc n12 [.int .i64 0, .int .i64 0, .int .i64 0, .int .i64 0]) := FA.out.ext hx
                            have FC : Hid (HV wc n13 [.int .i64 0, .int .i64 0, .int .i64 0, .int .i64 0]) := FC.out.ext hx
                            have FU : Hid (HV wc n14 [.int .i64 0, .int .i64 0, .int .i64 0, .int .i64 0]) := FU.out.ext hx
                            have FX : Hid (Ext w wc) := FX.out.trans hx
                            clear hx
                            generalize wc = wx6 at *
                            go_upto_if 57 with fail
                            go_cut [7] from 24 to 196 (fun v7 wx => v7 = .int .i64 ea ∧ Hid (HV wx np [.int .i64 (z 0), .int .i64 (z 1), .int .i64 (z 2), .int .i64 (z 3), .int .i64 (z 4), .int .i64 (z 5), .int .i64 (z 6), .int .i64 (z 7), .int .i64 (z 8), .int .i64 (z 9), .int .i64 (z 10), .int .i64 (z 11), .int .i64 (z 12), .int .i64 (z 13)]) ∧ Hid (HV wx n12 [.int .i64 A0, .int .i64 A1, .int .i64 A2, .int .i64 A3]) ∧ Hid (HV wx n13 [.int .i64 0, .int .i64 0, .int .i64 0, .int .i64 0]) ∧ Hid (HV wx n14 [.int .i64 0, .int .i64 0, .int .i64 0, .int .i64 0]) ∧ Hid (HV wx n15 [.int .i64 0, .int .i64 0, .int .i64 0]) ∧ Hid (HV wx n16 [.int .i64 0, .int .i64 0, .int .i64 0]) ∧ Hid (Ext w wx))
                            case first =>
                              as_aux_lemma =>
                                clear CK PA IA PC IC PU IU PN PT IT PB IB R1 R3
                                rcases R2.out with ⟨rfl, HA⟩ | ⟨rfl, ⟨rfl, rfl, rfl, rfl, rfl⟩⟩
                                · clear R2
                                  have HA : Hid (∀ w, Calls Tryz.prog 27 #[.agg #[.int .i64 (z 0), .int .i64 (z 1), .int .i64 (z 2), .int .i64 (z 3)], .agg #[.int .i64 (z 4), .int .i64 (z 5), .int .i64 (z 6), .int .i64 (z 7)]] w fun e w' => e = .returned (.tuple #[.agg #[.int .i64 A0, .int .i64 A1, .int .i64 A2, .int .i64 A3], .int .i64 ea]) ∧ Ext w w') := HA
                                  have qp0 : wx6.cell? ⟨np, 0, none⟩ = some (.int .i64 (z 0)) := Fp.out.c 0 rfl
                                  have qp1 : wx6.cell? ⟨np, 1, none⟩ = some (.int .i64 (z 1)) := Fp.out.c 1 rfl
                                  have qp2 : wx6.cell? ⟨np, 2, none⟩ = some (.int .i64 (z 2)) := Fp.out.c 2 rfl
                                  have qp3 : wx6.cell? ⟨np, 3, none⟩ = some (.int .i64 (z 3)) := Fp.out.c 3 rfl
                                  have qp4 : wx6.cell? ⟨np, 4, none⟩ = some (.int .i64 (z 4)) := Fp.out.c 4 rfl
                                  have qp5 : wx6.cell? ⟨np, 5, none⟩ = some (.int .i64 (z 5)) := Fp.out.c 5 rfl
                                  have qp6 : wx6.cell? ⟨np, 6, none⟩ = some (.int .i64 (z 6)) := Fp.out.c 6 rfl
                                  have qp7 : wx6.cell? ⟨np, 7, none⟩ = some (.int .i64 (z 7)) := Fp.out.c 7 rfl
                                  have qA0 : wx6.cell? ⟨n12, 0, none⟩ = some (.int .i64 0) := FA.out.c 0 rfl
                                  have zA0 : wx6.frozen? ⟨n12, 0, none⟩ = false := FA.out.f 0 rfl
                                  have qA1 : wx6.cell? ⟨n12, 1, none⟩ = some (.int .i64 0) := FA.out.c 1 rfl
                                  have zA1 : wx6.frozen? ⟨n12, 1, none⟩ = false := FA.out.f 1 rfl
                                  have qA2 : wx6.cell? ⟨n12, 2, none⟩ = some (.int .i64 0) := FA.out.c 2 rfl
                                  have zA2 : wx6.frozen? ⟨n12, 2, none⟩ = false := FA.out.f 2 rfl
                                  have qA3 : wx6.cell? ⟨n12, 3, none⟩ = some (.int .i64 0) := FA.out.c 3 rfl
                                  have zA3 : wx6.frozen? ⟨n12, 3, none⟩ = false := FA.out.f 3 rfl
                                  go_wp2_with (go_at_call 27; refine (HA.out _).mono ?_; rintro e wk0 ⟨rfl, xk0⟩; have kA0 : wk0.cell? ⟨n12, 0, none⟩ = some (.int .i64 0) := (FA.out.ext xk0).c 0 rfl; have zA0 : wk0.frozen? ⟨n12, 0, none⟩ = false := (FA.out.ext xk0).f 0 rfl; have kA1 : wk0.cell? ⟨n12, 1, none⟩ = some (.int .i64 0) := (FA.out.ext xk0).c 1 rfl; have zA1 : wk0.frozen? ⟨n12, 1, none⟩ = false := (FA.out.ext xk0).f 1 rfl; have kA2 : wk0.cell? ⟨n12, 2, none⟩ = some (.int .i64 0) := (FA.out.ext xk0).c 2 rfl; have zA2 : wk0.frozen? ⟨n12, 2, none⟩ = false := (FA.out.ext xk0).f 2 rfl; have kA3 : wk0.cell? ⟨n12, 3, none⟩ = some (.int .i64 0) := (FA.out.ext xk0).c 3 rfl; have zA3 : wk0.frozen? ⟨n12, 3, none⟩ = false := (FA.out.ext xk0).f 3 rfl)
                                  have Fp : Hid (HV wk0 np [.int .i64 (z 0), .int .i64 (z 1), .int .i64 (z 2), .int .i64 (z 3), .int .i64 (z 4), .int .i64 (z 5), .int .i64 (z 6), .int .i64 (z 7), .int .i64 (z 8), .int .i64 (z 9), .int .i64 (z 10), .int .i64 (z 11), .int .i64 (z 12), .int .i64 (z 13)]) := Fp.out.ext xk0
                                  have FA : Hid (HV wk0 n12 [.int .i64 0, .int .i64 0, .int .i64 0, .int .i64 0]) := FA.out.ext xk0
                                  have FC : Hid (HV wk0 n13 [.int .i64 0, .int .i64 0, .int .i64 0, .int .i64 0]) := FC.out.ext xk0
                                  have FU : Hid (HV wk0 n14 [.int .i64 0, .int .i64 0, .int .i64 0, .int .i64 0]) := FU.out.ext xk0
                                  have FT : Hid (HV wk0 n15 [.int .i64 0, .int .i64 0, .int .i64 0]) := FT.out.ext xk0
                                  have FB : Hid (HV wk0 n16 [.int .i64 0, .int .i64 0, .int .i64 0]) := FB.out.ext xk0
                                  have FX : Hid (Ext w wk0) := FX.out.trans xk0
                                  go_meet
                                  exact ⟨rfl, ((((Fp.out.far (by omega)).far (by omega)).far (by omega)).far (by omega)), ((((FA.out.set 0 (.int .i64 A0)).set 1 (.int .i64 A1)).set 2 (.int .i64 A2)).set 3 (.int .i64 A3)), ((((FC.out.far (by omega)).far (by omega)).far (by omega)).far (by omega)), ((((FU.out.far (by omega)).far (by omega)).far (by omega)).far (by omega)), ((((FT.out.far (by omega)).far (by omega)).far (by omega)).far (by omega)), ((((FB.out.far (by omega)).far (by omega)).far (by omega)).far (by omega)), ((((FX.out.set (p := ⟨n12, 0, none⟩) LA.out (.int .i64 A0)).set (p := ⟨n12, 1, none⟩) LA.out (.int .i64 A1)).set (p := ⟨n12, 2, none⟩) LA.out (.int .i64 A2)).set (p := ⟨n12, 3, none⟩) LA.out (.int .i64 A3))⟩
                                · clear R2
                                  go_wp2_with fail
                                  go_meet
                                  exact ⟨rfl, Fp, FA, FC, FU, FT, FB, FX⟩
                            case rest =>
                              as_aux_lemma =>
                                clear Fp FA FC FU FT FB FX R2
                                obtain ⟨rfl, Fp, FA, FC, FU, FT, FB, FX⟩ := hcut
                                generalize wc = wx7 at *
                                go_upto_if 67 with fail
                                go_cut [8, 9, 17] from 24 to 196 (fun v8 v9 v17 wx => v8 = .int .i64 eu ∧ v9 = .int .i64 en ∧ v17 = .int .i64 S0 ∧ Hid (HV wx np [.int .i64 (z 0), .int .i64 (z 1), .int .i64 (z 2), .int .i64 (z 3), .int .i64 (z 4), .int .i64 (z 5), .int .i64 (z 6), .int .i64 (z 7), .int .i64 (z 8), .int .i64 (z 9), .int .i64 (z 10), .int .i64 (z 11), .int .i64 (z 12), .int .i64 (z 13)]) ∧ Hid (HV wx n12 [.int .i64 A0, .int .i64 A1, .int .i64 A2, .int .i64 A3]) ∧ Hid (HV wx n13 [.int .i64 C0, .int .i64 C1, .int .i64 C2, .int .i64 C3]) ∧ Hid (HV wx n14 [.int .i64 U0, .int .i64 U1, .int .i64 U2, .int .i64 U3]) ∧ Hid (HV wx n15 [.int .i64 0, .int .i64 0, .int .i64 0]) ∧ Hid (HV wx n16 [.int .i64 0, .int .i64 0, .int .i64 0]) ∧ Hid (Ext w wx))
                                case first =>
                                  as_aux_lemma =>
                                    clear CK PA IA PC IC PU IU PN PT IT PB IB R3
                                    rcases R1.out with ⟨rfl, HC, HU, HE, HS⟩ | ⟨rfl, ⟨rfl, rfl, rfl, rfl⟩, ⟨rfl, rfl, rfl, rfl, rfl⟩, rfl, rfl⟩
                                    · clear R1
                                      have HC : Hid (∀ w, Calls Tryz.prog 28 #[.agg #[.int .i64 (z 0), .int .i64 (z 1), .int .i64 (z 2), .int .i64 (z 3)]] w fun e w' => e = .returned (.agg #[.int .i64 C0, .int .i64 C1, .int .i64 C2, .int .i64 C3]) ∧ Ext w w') := HC
                                      have HU : Hid (∀ w, Calls Tryz.prog 29 #[.agg #[.int .i64 (z 0), .int .i64 (z 1), .int .i64 (z 2), .int .i64 (z 3)]] w fun e w' => e = .returned (.tuple #[.agg #[.int .i64 U0, .int .i64 U1, .int .i64 U2, .int .i64 U3], .int .i64 eu]) ∧ Ext w w') := HU
                                      have HE : Hid (∀ w, Calls Tryz.prog 31 #[.agg #[.int .i64 (z 0), .int .i64 (z 1), .int .i64 (z 2), .int .i64 (z 3)], .agg #[.int .i64 C0, .int .i64 C1, .int .i64 C2, .int .i64 C3]] w fun e w' => (∃ r, e = .returned r ∧ IsFour w' r X0 X1 X2 X3) ∧ Ext w w') := HE
                                      have HS : Hid (∀ v w, IsFour w v X0 X1 X2 X3 → Calls Tryz.prog 30 #[v, .int .i64 30] w fun e' w' => e' = .returned (.tuple #[.agg #[.int .i64 S0, .int .i64 S1, .int .i64 S2, .int .i64 S3], .int .i64 en]) ∧ Ext w w') := HS
                                      have HC2 : Hid (∀ w, Calls Tryz.prog 28 #[.agg #[.int .i64 (z 0), .int .i64 (z 1), .int .i64 (z 2), .int .i64 (z 3)]] w fun e w' => e = .returned (.agg #[.int .i64 C0, .int .i64 C1, .int .i64 C2, .int .i64 C3]) ∧ Ext w w') := HC
                                      have qp0 : wx7.cell? ⟨np, 0, none⟩ = some (.int .i64 (z 0)) := Fp.out.c 0 rfl
                                      have qp1 : wx7.cell? ⟨np, 1, none⟩ = some (.int .i64 (z 1)) := Fp.out.c 1 rfl
                                      have qp2 : wx7.cell? ⟨np, 2, none⟩ = some (.int .i64 (z 2)) := Fp.out.c 2 rfl
                                      have qp3 : wx7.cell? ⟨np, 3, none⟩ = some (.int .i64 (z 3)) := Fp.out.c 3 rfl
                                      have qC0 : wx7.cell? ⟨n13, 0, none⟩ = some (.int .i64 0) := FC.out.c 0 rfl
                                      have zC0 : wx7.frozen? ⟨n13, 0, none⟩ = false := FC.out.f 0 rfl
                                      have qC1 : wx7.cell? ⟨n13, 1, none⟩ = some (.int .i64 0) := FC.out.c 1 rfl
                                      have zC1 : wx7.frozen? ⟨n13, 1, none⟩ = false := FC.out.f 1 rfl
                                      have qC2 : wx7.cell? ⟨n13, 2, none⟩ = some (.int .i64 0) := FC.out.c 2 rfl
                                      have zC2 : wx7.frozen? ⟨n13, 2, none⟩ = false := FC.out.f 2 rfl
                                      have qC3 : wx7.cell? ⟨n13, 3, none⟩ = some (.int .i64 0) := FC.out.c 3 rfl
                                      have zC3 : wx7.frozen? ⟨n13, 3, none⟩ = false := FC.out.f 3 rfl
                                      go_upto_region 23 with (first | (go_at_call 28; refine (HC.out _).mono ?_; rintro e wk0 ⟨rfl, xk0⟩; have kC0 : wk0.cell? ⟨n13, 0, none⟩ = some (.int .i64 0) := (FC.out.ext xk0).c 0 rfl; have zC0 : wk0.frozen? ⟨n13, 0, none⟩ = false := (FC.out.ext xk0).f 0 rfl; have kC1 : wk0.cell? ⟨n13, 1, none⟩ = some (.int .i64 0) := (FC.out.ext xk0).c 1 rfl; have zC1 : wk0.frozen? ⟨n13, 1, none⟩ = false := (FC.out.ext xk0).f 1 rfl; have kC2 : wk0.cell? ⟨n13, 2, none⟩ = some (.int .i64 0) := (FC.out.ext xk0).c 2 rfl; have zC2 : wk0.frozen? ⟨n13, 2, none⟩ = false := (FC.out.ext xk0).f 2 rfl; have kC3 : wk0.cell? ⟨n13, 3, none⟩ = some (.int .i64 0) := (FC.out.ext xk0).c 3 rfl; have zC3 : wk0.frozen? ⟨n13, 3, none⟩ = false := (FC.out.ext xk0).f 3 rfl))
                                      have Fp : Hid (HV wk0 np [.int .i64 (z 0), .int .i64 (z 1), .int .i64 (z 2), .int .i64 (z 3), .int .i64 (z 4), .int .i64 (z 5), .int .i64 (z 6), .int .i64 (z 7), .int .i64 (z 8), .int .i64 (z 9), .int .i64 (z 10), .int .i64 (z 11), .int .i64 (z 12), .int .i64 (z 13)]) := Fp.out.ext xk0
                                      have FA : Hid (HV wk0 n12 [.int .i64 A0, .int .i64 A1, .int .i64 A2, .int .i64 A3]) := FA.out.ext xk0
                                      have FC : Hid (HV wk0 n13 [.int .i64 0, .int .i64 0, .int .i64 0, .int .i64 0]) := FC.out.ext xk0
                                      have FU : Hid (HV wk0 n14 [.int .i64 0, .int .i64 0, .int .i64 0, .int .i64 0]) := FU.out.ext xk0
                                      have FT : Hid (HV wk0 n15 [.int .i64 0, .int .i64 0, .int .i64 0]) := FT.out.ext xk0
                                      have FB : Hid (HV wk0 n16 [.int .i64 0, .int .i64 0, .int .i64 0]) := FB.out.ext xk0
                                      have FX : Hid (Ext w wk0) := FX.out.trans xk0
                                      clear qp0 qp1 qp2 qp3 qC0 qC1 qC2 qC3 kC0 kC1 kC2 kC3 zC0 zC1 zC2 zC3 xk0 HC
                                      have Fp : Hid (HV ((((wk0.setCell ⟨n13, 0, none⟩ (.int .i64 C0)).setCell ⟨n13, 1, none⟩ (.int .i64 C1)).setCell ⟨n13, 2, none⟩ (.int .i64 C2)).setCell ⟨n13, 3, none⟩ (.int .i64 C3)) np [.int .i64 (z 0), .int .i64 (z 1), .int .i64 (z 2), .int .i64 (z 3), .int .i64 (z 4), .int .i64 (z 5), .int .i64 (z 6), .int .i64 (z 7), .int .i64 (z 8), .int .i64 (z 9), .int .i64 (z 10), .int .i64 (z 11), .int .i64 (z 12), .int .i64 (z 13)]) := ((((Fp.out.far (by omega)).far (by omega)).far (by omega)).far (by omega))
                                      have FA : Hid (HV ((((wk0.setCell ⟨n13, 0, none⟩ (.int .i64 C0)).setCell ⟨n13, 1, none⟩ (.int .i64 C1)).setCell ⟨n13, 2, none⟩ (.int .i64 C2)).setCell ⟨n13, 3, none⟩ (.int .i64 C3)) n12 [.int .i64 A0, .int .i64 A1, .int .i64 A2, .int .i64 A3]) := ((((FA.out.far (by omega)).far (by omega)).far (by omega)).far (by omega))
                                      have FU : Hid (HV ((((wk0.setCell ⟨n13, 0, none⟩ (.int .i64 C0)).setCell ⟨n13, 1, none⟩ (.int .i64 C1)).setCell ⟨n13, 2, none⟩ (.int .i64 C2)).setCell ⟨n13, 3, none⟩ (.int .i64 C3)) n14 [.int .i64 0, .int .i64 0, .int .i64 0, .int .i64 0]) := ((((FU.out.far (by omega)).far (by omega)).far (by omega)).far (by omega))
                                      have FT : Hid (HV ((((wk0.setCell ⟨n13, 0, none⟩ (.int .i64 C0)).setCell ⟨n13, 1, none⟩ (.int .i64 C1)).setCell ⟨n13, 2, none⟩ (.int .i64 C2)).setCell ⟨n13, 3, none⟩ (.int .i64 C3)) n15 [.int .i64 0, .int .i64 0, .int .i64 0]) := ((((FT.out.far (by omega)).far (by omega)).far (by omega)).far (by omega))
                                      have FB : Hid (HV ((((wk0.setCell ⟨n13, 0, none⟩ (.int .i64 C0)).setCell ⟨n13, 1, none⟩ (.int .i64 C1)).setCell ⟨n13, 2, none⟩ (.int .i64 C2)).setCell ⟨n13, 3, none⟩ (.int .i64 C3)) n16 [.int .i64 0, .int .i64 0, .int .i64 0]) := ((((FB.out.far (by omega)).far (by omega)).far (by omega)).far (by omega))
                                      have FC : Hid (HV ((((wk0.setCell ⟨n13, 0, none⟩ (.int .i64 C0)).setCell ⟨n13, 1, none⟩ (.int .i64 C1)).setCell ⟨n13, 2, none⟩ (.int .i64 C2)).setCell ⟨n13, 3, none⟩ (.int .i64 C3)) n13 [.int .i64 C0, .int .i64 C1, .int .i64 C2, .int .i64 C3]) := ((((FC.out.set 0 (.int .i64 C0)).set 1 (.int .i64 C1)).set 2 (.int .i64 C2)).set 3 (.int .i64 C3))
                                      have FX : Hid (Ext w ((((wk0.setCell ⟨n13, 0, none⟩ (.int .i64 C0)).setCell ⟨n13, 1, none⟩ (.int .i64 C1)).setCell ⟨n13, 2, none⟩ (.int .i64 C2)).setCell ⟨n13, 3, none⟩ (.int .i64 C3))) := ((((FX.out.set (p := ⟨n13, 0, none⟩) LC.out (.int .i64 C0)).set (p := ⟨n13, 1, none⟩) LC.out (.int .i64 C1)).set (p := ⟨n13, 2, none⟩) LC.out (.int .i64 C2)).set (p := ⟨n13, 3, none⟩) LC.out (.int .i64 C3))
                                      generalize ((((wk0.setCell ⟨n13, 0, none⟩ (.int .i64 C0)).setCell ⟨n13, 1, none⟩ (.int .i64 C1)).setCell ⟨n13, 2, none⟩ (.int .i64 C2)).setCell ⟨n13, 3, none⟩ (.int .i64 C3)) = wx38 at *
                                      have qp0 : wx38.cell? ⟨np, 0, none⟩ = some (.int .i64 (z 0)) := Fp.out.c 0 rfl
                                      have qp1 : wx38.cell? ⟨np, 1, none⟩ = some (.int .i64 (z 1)) := Fp.out.c 1 rfl
                                      have qp2 : wx38.cell? ⟨np, 2, none⟩ = some (.int .i64 (z 2)) := Fp.out.c 2 rfl
                                      have qp3 : wx38.cell? ⟨np, 3, none⟩ = some (.int .i64 (z 3)) := Fp.out.c 3 rfl
                                      have qU0 : wx38.cell? ⟨n14, 0, none⟩ = some (.int .i64 0) := FU.out.c 0 rfl
                                      have zU0 : wx38.frozen? ⟨n14, 0, none⟩ = false := FU.out.f 0 rfl
                                      have qU1 : wx38.cell? ⟨n14, 1, none⟩ = some (.int .i64 0) := FU.out.c 1 rfl
                                      have zU1 : wx38.frozen? ⟨n14, 1, none⟩ = false := FU.out.f 1 rfl
                                      have qU2 : wx38.cell? ⟨n14, 2, none⟩ = some (.int .i64 0) := FU.out.c 2 rfl
                                      have zU2 : wx38.frozen? ⟨n14, 2, none⟩ = false := FU.out.f 2 rfl
                                      have qU3 : wx38.cell? ⟨n14, 3, none⟩ = some (.int .i64 0) := FU.out.c 3 rfl
                                      have zU3 : wx38.frozen? ⟨n14, 3, none⟩ = false := FU.out.f 3 rfl
                                      go_upto_region 24 with (first | (go_at_call 29; refine (HU.out _).mono ?_; rintro e wk1 ⟨rfl, xk1⟩; have kU0 : wk1.cell? ⟨n14, 0, none⟩ = some (.int .i64 0) := (FU.out.ext xk1).c 0 rfl; have zU0 : wk1.frozen? ⟨n14, 0, none⟩ = false := (FU.out.ext xk1).f 0 rfl; have kU1 : wk1.cell? ⟨n14, 1, none⟩ = some (.int .i64 0) := (FU.out.ext xk1).c 1 rfl; have zU1 : wk1.frozen? ⟨n14, 1, none⟩ = false := (FU.out.ext xk1).f 1 rfl; have kU2 : wk1.cell? ⟨n14, 2, none⟩ = some (.int .i64 0) := (FU.out.ext xk1).c 2 rfl; have zU2 : wk1.frozen? ⟨n14, 2, none⟩ = false := (FU.out.ext xk1).f 2 rfl; have kU3 : wk1.cell? ⟨n14, 3, none⟩ = some (.int .i64 0) := (FU.out.ext xk1).c 3 rfl; have zU3 : wk1.frozen? ⟨n14, 3, none⟩ = false := (FU.out.ext xk1).f 3 rfl))
                                      have Fp : Hid (HV wk1 np [.int .i64 (z 0), .int .i64 (z 1), .int .i64 (z 2), .int .i64 (z 3), .int .i64 (z 4), .int .i64 (z 5), .int .i64 (z 6), .int .i64 (z 7), .int .i64 (z 8), .int .i64 (z 9), .int .i64 (z 10), .int .i64 (z 11), .int .i64 (z 12), .int .i64 (z 13)]) := Fp.out.ext xk1
                                      have FA : Hid (HV wk1 n12 [.int .i64 A0, .int .i64 A1, .int .i64 A2, .int .i64 A3]) := FA.out.ext xk1
                                      have FC : Hid (HV wk1 n13 [.int .i64 C0, .int .i64 C1, .int .i64 C2, .int .i64 C3]) := FC.out.ext xk1
                                      have FU : Hid (HV wk1 n14 [.int .i64 0, .int .i64 0, .int .i64 0, .int .i64 0]) := FU.out.ext xk1
                                      have FT : Hid (HV wk1 n15 [.int .i64 0, .int .i64 0, .int .i64 0]) := FT.out.ext xk1
                                      have FB : Hid (HV wk1 n16 [.int .i64 0, .int .i64 0, .int .i64 0]) := FB.out.ext xk1
                                      have FX : Hid (Ext w wk1) := FX.out.trans xk1
                                      clear qp0 qp1 qp2 qp3 qU0 qU1 qU2 qU3 kU0 kU1 kU2 kU3 zU0 zU1 zU2 zU3 xk1 HU
                                      have Fp : Hid (HV ((((wk1.setCell ⟨n14, 0, none⟩ (.int .i64 U0)).setCell ⟨n14, 1, none⟩ (.int .i64 U1)).setCell ⟨n14, 2, none⟩ (.int .i64 U2)).setCell ⟨n14, 3, none⟩ (.int .i64 U3)) np [.int .i64 (z 0), .int .i64 (z 1), .int .i64 (z 2), .int .i64 (z 3), .int .i64 (z 4), .int .i64 (z 5), .int .i64 (z 6), .int .i64 (z 7), .int .i64 (z 8), .int .i64 (z 9), .int .i64 (z 10), .int .i64 (z 11), .int .i64 (z 12), .int .i64 (z 13)]) := ((((Fp.out.far (by omega)).far (by omega)).far (by omega)).far (by omega))
                                      have FA : Hid (HV ((((wk1.setCell ⟨n14, 0, none⟩ (.int .i64 U0)).setCell ⟨n14, 1, none⟩ (.int .i64 U1)).setCell ⟨n14, 2, none⟩ (.int .i64 U2)).setCell ⟨n14, 3, none⟩ (.int .i64 U3)) n12 [.int .i64 A0, .int .i64 A1, .int .i64 A2, .int .i64 A3]) := ((((FA.out.far (by omega)).far (by omega)).far (by omega)).far (by omega))
                                      have FC : Hid (HV ((((wk1.setCell ⟨n14, 0, none⟩ (.int .i64 U0)).setCell ⟨n14, 1, none⟩ (.int .i64 U1)).setCell ⟨n14, 2, none⟩ (.int .i64 U2)).setCell ⟨n14, 3, none⟩ (.int .i64 U3)) n13 [.int .i64 C0, .int .i64 C1, .int .i64 C2, .int .i64 C3]) := ((((FC.out.far (by omega)).far (by omega)).far (by omega)).far (by omega))
                                      have FT : Hid (HV ((((wk1.setCell ⟨n14, 0, none⟩ (.int .i64 U0)).setCell ⟨n14, 1, none⟩ (.int .i64 U1)).setCell ⟨n14, 2, none⟩ (.int .i64 U2)).setCell ⟨n14, 3, none⟩ (.int .i64 U3)) n15 [.int .i64 0, .int .i64 0, .int .i64 0]) := ((((FT.out.far (by omega)).far (by omega)).far (by omega)).far (by omega))
                                      have FB : Hid (HV ((((wk1.setCell ⟨n14, 0, none⟩ (.int .i64 U0)).setCell ⟨n14, 1, none⟩ (.int .i64 U1)).setCell ⟨n14, 2, none⟩ (.int .i64 U2)).setCell ⟨n14, 3, none⟩ (.int .i64 U3)) n16 [.int .i64 0, .int .i64 0, .int .i64 0]) := ((((FB.out.far (by omega)).far (by omega)).far (by omega)).far (by omega))
                                      have FU : Hid (HV ((((wk1.setCell ⟨n14, 0, none⟩ (.int .i64 U0)).setCell ⟨n14, 1, none⟩ (.int .i64 U1)).setCell ⟨n14, 2, none⟩ (.int .i64 U2)).setCell ⟨n14, 3, none⟩ (.int .i64 U3)) n14 [.int .i64 U0, .int .i64 U1, .int .i64 U2, .int .i64 U3]) := ((((FU.out.set 0 (.int .i64 U0)).set 1 (.int .i64 U1)).set 2 (.int .i64 U2)).set 3 (.int .i64 U3))
                                      have FX : Hid (Ext w ((((wk1.setCell ⟨n14, 0, none⟩ (.int .i64 U0)).setCell ⟨n14, 1, none⟩ (.int .i64 U1)).setCell ⟨n14, 2, none⟩ (.int .i64 U2)).setCell ⟨n14, 3, none⟩ (.int .i64 U3))) := ((((FX.out.set (p := ⟨n14, 0, none⟩) LU.out (.int .i64 U0)).set (p := ⟨n14, 1, none⟩) LU.out (.int .i64 U1)).set (p := ⟨n14, 2, none⟩) LU.out (.int .i64 U2)).set (p := ⟨n14, 3, none⟩) LU.out (.int .i64 U3))
                                      generalize ((((wk1.setCell ⟨n14, 0, none⟩ (.int .i64 U0)).setCell ⟨n14, 1, none⟩ (.int .i64 U1)).setCell ⟨n14, 2, none⟩ (.int .i64 U2)).setCell ⟨n14, 3, none⟩ (.int .i64 U3)) = wx39 at *
                                      go_cut [18, 19] from 24 to 196 (fun v18 v19 wx => ∃ g : Nat, v18 = .pointer (some ⟨g, 0, none⟩) ∧ v19 = .int .i64 en ∧ Hid (wx39.heap.size ≤ g) ∧ Hid (HV wx g [.int .i64 S0, .int .i64 S1, .int .i64 S2, .int .i64 S3]) ∧ Hid (Ext wx39 wx))
                                      case first =>
                                        as_aux_lemma =>
                                          have qp0 : wx39.cell? ⟨np, 0, none⟩ = some (.int .i64 (z 0)) := Fp.out.c 0 rfl
                                          have qp1 : wx39.cell? ⟨np, 1, none⟩ = some (.int .i64 (z 1)) := Fp.out.c 1 rfl
                                          have qp2 : wx39.cell? ⟨np, 2, none⟩ = some (.int .i64 (z 2)) := Fp.out.c 2 rfl
                                          have qp3 : wx39.cell? ⟨np, 3, none⟩ = some (.int .i64 (z 3)) := Fp.out.c 3 rfl
                                          have bp : np < wx39.heap.size := Fp.out.1
                                          have mp1 := Nat.ne_of_lt bp
                                          have mp2 := Nat.ne_of_gt bp
                                          go_region_held3 (fun w' => w'.cell? ⟨np, 0, none⟩ = some (.int .i64 (z 0)) ∧ w'.cell? ⟨np, 1, none⟩ = some (.int .i64 (z 1)) ∧ w'.cell? ⟨np, 2, none⟩ = some (.int .i64 (z 2)) ∧ w'.cell? ⟨np, 3, none⟩ = some (.int .i64 (z 3))) (first | (go_keep; done) | (refine ⟨?_, ?_, ?_, ?_⟩ <;> (rw [World.cell?_setCell_far _ _ _ _ (by dsimp only; omega), World.cell?_setCell_far _ _ _ _ (by dsimp only; omega), World.cell?_setCell_far _ _ _ _ (by dsimp only; omega), World.cell?_setCell_far _ _ _ _ (by dsimp only; omega)]; with_reducible assumption)) | skip) (first | (go_at_call 28; refine (HC2.out _).mono ?_; rintro e wz0 ⟨rfl, y0⟩; have Y0 : Ext wx39 wz0 := Ext.trans (by repeat (first | with_reducible assumption | with_reducible exact Ext.refl _ | with_reducible refine Ext.drew ?_ | with_reducible refine Ext.drewN ?_ _ | with_reducible refine Ext.alloc ?_ _ | with_reducible refine Ext.set ?_ (by first | exact Nat.le_refl _ | (dsimp only; omega) | (simp; done)) _)) y0; have qp0u : wz0.cell? ⟨np, 0, none⟩ = some (.int .i64 (z 0)) := (Fp.out.ext Y0).c 0 rfl; have qp1u : wz0.cell? ⟨np, 1, none⟩ = some (.int .i64 (z 1)) := (Fp.out.ext Y0).c 1 rfl; have qp2u : wz0.cell? ⟨np, 2, none⟩ = some (.int .i64 (z 2)) := (Fp.out.ext Y0).c 2 rfl; have qp3u : wz0.cell? ⟨np, 3, none⟩ = some (.int .i64 (z 3)) := (Fp.out.ext Y0).c 3 rfl; have bpu : np < wz0.heap.size := (Fp.out.ext Y0).1; have mp1u := Nat.ne_of_lt bpu; have mp2u := Nat.ne_of_gt bpu; (first | (have N : Hid (HV wz0 _ [.int .i64 0, .int .i64 0, .int .i64 0, .int .i64 0]) := N.out.ext y0) | (have N : Hid (HV wz0 _ [.int .i64 0, .int .i64 0, .int .i64 0, .int .i64 0]) := (hv_at rfl).ext y0) | (have N : Hid (HV wz0 _ [.int .i64 0, .int .i64 0, .int .i64 0, .int .i64 0]) := (HV.drew (hv_at rfl)).ext y0) | (have N : Hid (HV wz0 _ [.int .i64 0, .int .i64 0, .int .i64 0, .int .i64 0]) := (HV.alloc N.out _).ext y0) | skip)) | (go_at_call 31; refine (HE.out _).mono ?_; rintro e wz1 ⟨⟨rX, rfl, hX⟩, y1⟩; have Y1 : Ext wx39 wz1 := Ext.trans (by repeat (first | with_reducible assumption | with_reducible exact Ext.refl _ | with_reducible refine Ext.drew ?_ | with_reducible refine Ext.drewN ?_ _ | with_reducible refine Ext.alloc ?_ _ | with_reducible refine Ext.set ?_ (by first | exact Nat.le_refl _ | (dsimp only; omega) | (simp; done)) _)) y1; have qp0u : wz1.cell? ⟨np, 0, none⟩ = some (.int .i64 (z 0)) := (Fp.out.ext Y1).c 0 rfl; have qp1u : wz1.cell? ⟨np, 1, none⟩ = some (.int .i64 (z 1)) := (Fp.out.ext Y1).c 1 rfl; have qp2u : wz1.cell? ⟨np, 2, none⟩ = some (.int .i64 (z 2)) := (Fp.out.ext Y1).c 2 rfl; have qp3u : wz1.cell? ⟨np, 3, none⟩ = some (.int .i64 (z 3)) := (Fp.out.ext Y1).c 3 rfl; have bpu : np < wz1.heap.size := (Fp.out.ext Y1).1; have mp1u := Nat.ne_of_lt bpu; have mp2u := Nat.ne_of_gt bpu; (first | (have N : Hid (HV wz1 _ [.int .i64 0, .int .i64 0, .int .i64 0, .int .i64 0]) := N.out.ext y1) | (have N : Hid (HV wz1 _ [.int .i64 0, .int .i64 0, .int .i64 0, .int .i64 0]) := (hv_at rfl).ext y1) | (have N : Hid (HV wz1 _ [.int .i64 0, .int .i64 0, .int .i64 0, .int .i64 0]) := (HV.drew (hv_at rfl)).ext y1) | (have N : Hid (HV wz1 _ [.int .i64 0, .int .i64 0, .int .i64 0, .int .i64 0]) := (HV.alloc N.out _).ext y1) | skip)) | (go_at_call 30; refine (HS.out _ _ (hX.ext (by repeat (first | with_reducible assumption | with_reducible exact Ext.refl _ | with_reducible refine Ext.drew ?_ | with_reducible refine Ext.drewN ?_ _ | with_reducible refine Ext.alloc ?_ _ | with_reducible refine Ext.set ?_ (by first | exact Nat.le_refl _ | (dsimp only; omega) | (simp; done)) _)))).mono ?_; rintro e wz2 ⟨rfl, y2⟩; have Y2 : Ext wx39 wz2 := Ext.trans (by repeat (first | with_reducible assumption | with_reducible exact Ext.refl _ | with_reducible refine Ext.drew ?_ | with_reducible refine Ext.drewN ?_ _ | with_reducible refine Ext.alloc ?_ _ | with_reducible refine Ext.set ?_ (by first | exact Nat.le_refl _ | (dsimp only; omega) | (simp; done)) _)) y2; have qp0u : wz2.cell? ⟨np, 0, none⟩ = some (.int .i64 (z 0)) := (Fp.out.ext Y2).c 0 rfl; have qp1u : wz2.cell? ⟨np, 1, none⟩ = some (.int .i64 (z 1)) := (Fp.out.ext Y2).c 1 rfl; have qp2u : wz2.cell? ⟨np, 2, none⟩ = some (.int .i64 (z 2)) := (Fp.out.ext Y2).c 2 rfl; have qp3u : wz2.cell? ⟨np, 3, none⟩ = some (.int .i64 (z 3)) := (Fp.out.ext Y2).c 3 rfl; have bpu : np < wz2.heap.size := (Fp.out.ext Y2).1; have mp1u := Nat.ne_of_lt bpu; have mp2u := Nat.ne_of_gt bpu; (first | (have N : Hid (HV wz2 _ [.int .i64 0, .int .i64 0, .int .i64 0, .int .i64 0]) := N.out.ext y2) | (have N : Hid (HV wz2 _ [.int .i64 0, .int .i64 0, .int .i64 0, .int .i64 0]) := (hv_at rfl).ext y2) | (have N : Hid (HV wz2 _ [.int .i64 0, .int .i64 0, .int .i64 0, .int .i64 0]) := (HV.drew (hv_at rfl)).ext y2) | (have N : Hid (HV wz2 _ [.int .i64 0, .int .i64 0, .int .i64 0, .int .i64 0]) := (HV.alloc N.out _).ext y2) | skip); (first | (have n0 := N.out.c 0 rfl; have n1 := N.out.c 1 rfl; have n2 := N.out.c 2 rfl; have n3 := N.out.c 3 rfl; have f0 := N.out.f 0 rfl; have f1 := N.out.f 1 rfl; have f2 := N.out.f 2 rfl; have f3 := N.out.f 3 rfl) | skip)))
                                          all_goals
                                            go_wp2_with fail
                                            go_meet
                                            first | exact ⟨wz2.heap.size, rfl, rfl, Y2.size, hv_at rfl, Y2.alloc _⟩ | exact (have hg : wx39.heap.size ≤ wx39.heap.size := Nat.le_refl _; ⟨wx39.heap.size, rfl, rfl, Nat.le_refl _, ((((N.out.set 0 (.int .i64 S0)).set 1 (.int .i64 S1)).set 2 (.int .i64 S2)).set 3 (.int .i64 S3)), ((((Y2.set (p := ⟨_, 0, none⟩) hg _).set (p := ⟨_, 1, none⟩) hg _).set (p := ⟨_, 2, none⟩) hg _).set (p := ⟨_, 3, none⟩) hg _)⟩) | exact (have hg : wx39.heap.size ≤ wz0.heap.size := Y0.size; ⟨wz0.heap.size, rfl, rfl, hg, ((((N.out.set 0 (.int .i64 S0)).set 1 (.int .i64 S1)).set 2 (.int .i64 S2)).set 3 (.int .i64 S3)), ((((Y2.set (p := ⟨_, 0, none⟩) hg _).set (p := ⟨_, 1, none⟩) hg _).set (p := ⟨_, 2, none⟩) hg _).set (p := ⟨_, 3, none⟩) hg _)⟩) | exact (have hg : wx39.heap.size ≤ wz1.heap.size := Y1.size; ⟨wz1.heap.size, rfl, rfl, hg, ((((N.out.set 0 (.int .i64 S0)).set 1 (.int .i64 S1)).set 2 (.int .i64 S2)).set 3 (.int .i64 S3)), ((((Y2.set (p := ⟨_, 0, none⟩) hg _).set (p := ⟨_, 1, none⟩) hg _).set (p := ⟨_, 2, none⟩) hg _).set (p := ⟨_, 3, none⟩) hg _)⟩)
                                      case rest =>
                                        as_aux_lemma =>
                                          obtain ⟨ns, rfl, rfl, Ls, Fs, hx⟩ := hcut
                                          have hx := hx.out
                                          have ltps : np < ns := Nat.lt_of_lt_of_le Fp.out.1 Ls.out
                                          have ltAs : n12 < ns := Nat.lt_of_lt_of_le FA.out.1 Ls.out
                                          have ltCs : n13 < ns := Nat.lt_of_lt_of_le FC.out.1 Ls.out
                                          have ltUs : n14 < ns := Nat.lt_of_lt_of_le FU.out.1 Ls.out
                                          have ltTs : n15 < ns := Nat.lt_of_lt_of_le FT.out.1 Ls.out
                                          have ltBs : n16 < ns := Nat.lt_of_lt_of_le FB.out.1 Ls.out
                                          have Ls : Hid (w.heap.size ≤ ns) := Nat.le_trans FX.out.size Ls.out
                                          have Fp : Hid (HV wc np [.int .i64 (z 0), .int .i64 (z 1), .int .i64 (z 2), .int .i64 (z 3), .int .i64 (z 4), .int .i64 (z 5), .int .i64 (z 6), .int .i64 (z 7), .int .i64 (z 8), .int .i64 (z 9), .int .i64 (z 10), .int .i64 (z 11), .int .i64 (z 12), .int .i64 (z 13)]) := Fp.out.ext hx
                                          have FA : Hid (HV wc n12 [.int .i64 A0, .int .i64 A1, .int .i64 A2, .int .i64 A3]) := FA.out.ext hx
                                          have FC : Hid (HV wc n13 [.int .i64 C0, .int .i64 C1, .int .i64 C2, .int .i64 C3]) := FC.out.ext hx
                                          have FU : Hid (HV wc n14 [.int .i64 U0, .int .i64 U1, .int .i64 U2, .int .i64 U3]) := FU.out.ext hx
                                          have FT : Hid (HV wc n15 [.int .i64 0, .int .i64 0, .int .i64 0]) := FT.out.ext hx
                                          have FB : Hid (HV wc n16 [.int .i64 0, .int .i64 0, .int .i64 0]) := FB.out.ext hx
                                          have FX : Hid (Ext w wc) := FX.out.trans hx
                                          clear hx
                                          generalize wc = wx40 at *
                                          have qs0 : wx40.cell? ⟨ns, 0, none⟩ = some (.int .i64 S0) := Fs.out.c 0 rfl
                                          go_wp2_with fail
                                          go_meet
                                          exact ⟨rfl, rfl, rfl, Fp, FA, FC, FU, FT, FB, FX⟩
                                    · clear R1
                                      go_wp2_with fail
                                      go_meet
                                      exact ⟨rfl, rfl, rfl, Fp, FA, FC, FU, FT, FB, FX⟩
                                case rest =>
                                  as_aux_lemma =>
                                    clear Fp FA FC FU FT FB FX R1
                                    obtain ⟨rfl, rfl, rfl, Fp, FA, FC, FU, FT, FB, FX⟩ := hcut
                                    generalize wc = wx8 at *
                                    go_upto_if 91 with fail
                                    go_cut [10, 11] from 24 to 196 (fun v10 v11 wx => v10 = .int .i64 et ∧ v11 = .int .i64 eb ∧ Hid (HV wx np [.int .i64 (z 0), .int .i64 (z 1), .int .i64 (z 2), .int .i64 (z 3), .int .i64 (z 4), .int .i64 (z 5), .int .i64 (z 6), .int .i64 (z 7), .int .i64 (z 8), .int .i64 (z 9), .int .i64 (z 10), .int .i64 (z 11), .int .i64 (z 12), .int .i64 (z 13)]) ∧ Hid (HV wx n12 [.int .i64 A0, .int .i64 A1, .int .i64 A2, .int .i64 A3]) ∧ Hid (HV wx n13 [.int .i64 C0, .int .i64 C1, .int .i64 C2, .int .i64 C3]) ∧ Hid (HV wx n14 [.int .i64 U0, .int .i64 U1, .int .i64 U2, .int .i64 U3]) ∧ Hid (HV wx n15 [.int .i64 T0, .int .i64 T1, .int .i64 T2]) ∧ Hid (HV wx n16 [.int .i64 B0, .int .i64 B1, .int .i64 B2]) ∧ Hid (Ext w wx))
                                    case first =>
                                      as_aux_lemma =>
                                        clear CK PA IA PC IC PU IU PN PT IT PB IB
                                        rcases R3.out with ⟨rfl, HT, HB⟩ | ⟨rfl, ⟨rfl, rfl, rfl, rfl⟩, ⟨rfl, rfl, rfl, rfl⟩⟩
                                        · clear R3
                                          have HT : Hid (∀ w, Calls Tryz.prog 32 #[.agg #[.int .i64 (z 0), .int .i64 (z 1), .int .i64 (z 2), .int .i64 (z 3)], .agg #[.int .i64 (z 8), .int .i64 (z 9), .int .i64 (z 10)]] w fun e w' => e = .returned (.tuple #[.agg #[.int .i64 T0, .int .i64 T1, .int .i64 T2], .int .i64 et]) ∧ Ext w w') := HT
                                          have HB : Hid (∀ w, Calls Tryz.prog 33 #[.agg #[.int .i64 (z 0), .int .i64 (z 1), .int .i64 (z 2), .int .i64 (z 3)], .agg #[.int .i64 (z 8), .int .i64 (z 9), .int .i64 (z 10)]] w fun e w' => e = .returned (.tuple #[.agg #[.int .i64 B0, .int .i64 B1, .int .i64 B2], .int .i64 eb]) ∧ Ext w w') := HB
                                          have qp0 : wx8.cell? ⟨np, 0, none⟩ = some (.int .i64 (z 0)) := Fp.out.c 0 rfl
                                          have qp1 : wx8.cell? ⟨np, 1, none⟩ = some (.int .i64 (z 1)) := Fp.out.c 1 rfl
                                          have qp2 : wx8.cell? ⟨np, 2, none⟩ = some (.int .i64 (z 2)) := Fp.out.c 2 rfl
                                          have qp3 : wx8.cell? ⟨np, 3, none⟩ = some (.int .i64 (z 3)) := Fp.out.c 3 rfl
                                          have qp8 : wx8.cell? ⟨np, 8, none⟩ = some (.int .i64 (z 8)) := Fp.out.c 8 rfl
                                          have qp9 : wx8.cell? ⟨np, 9, none⟩ = some (.int .i64 (z 9)) := Fp.out.c 9 rfl
                                          have qp10 : wx8.cell? ⟨np, 10, none⟩ = some (.int .i64 (z 10)) := Fp.out.c 10 rfl
                                          have qT0 : wx8.cell? ⟨n15, 0, none⟩ = some (.int .i64 0) := FT.out.c 0 rfl
                                          have zT0 : wx8.frozen? ⟨n15, 0, none⟩ = false := FT.out.f 0 rfl
                                          have qT1 : wx8.cell? ⟨n15, 1, none⟩ = some (.int .i64 0) := FT.out.c 1 rfl
                                          have zT1 : wx8.frozen? ⟨n15, 1, none⟩ = false := FT.out.f 1 rfl
                                          have qT2 : wx8.cell? ⟨n15, 2, none⟩ = some (.int .i64 0) := FT.out.c 2 rfl
                                          have zT2 : wx8.frozen? ⟨n15, 2, none⟩ = false := FT.out.f 2 rfl
                                          go_upto_region 29 with (first | (go_at_call 32; refine (HT.out _).mono ?_; rintro e wk0 ⟨rfl, xk0⟩; have kT0 : wk0.cell? ⟨n15, 0, none⟩ = some (.int .i64 0) := (FT.out.ext xk0).c 0 rfl; have zT0 : wk0.frozen? ⟨n15, 0, none⟩ = false := (FT.out.ext xk0).f 0 rfl; have kT1 : wk0.cell? ⟨n15, 1, none⟩ = some (.int .i64 0) := (FT.out.ext xk0).c 1 rfl; have zT1 : wk0.frozen? ⟨n15, 1, none⟩ = false := (FT.out.ext xk0).f 1 rfl; have kT2 : wk0.cell? ⟨n15, 2, none⟩ = some (.int .i64 0) := (FT.out.ext xk0).c 2 rfl; have zT2 : wk0.frozen? ⟨n15, 2, none⟩ = false := (FT.out.ext xk0).f 2 rfl))
                                          have Fp : Hid (HV wk0 np [.int .i64 (z 0), .int .i64 (z 1), .int .i64 (z 2), .int .i64 (z 3), .int .i64 (z 4), .int .i64 (z 5), .int .i64 (z 6), .int .i64 (z 7), .int .i64 (z 8), .int .i64 (z 9), .int .i64 (z 10), .int .i64 (z 11), .int .i64 (z 12), .int .i64 (z 13)]) := Fp.out.ext xk0
                                          have FA : Hid (HV wk0 n12 [.int .i64 A0, .int .i64 A1, .int .i64 A2, .int .i64 A3]) := FA.out.ext xk0
                                          have FC : Hid (HV wk0 n13 [.int .i64 C0, .int .i64 C1, .int .i64 C2, .int .i64 C3]) := FC.out.ext xk0
                                          have FU : Hid (HV wk0 n14 [.int .i64 U0, .int .i64 U1, .int .i64 U2, .int .i64 U3]) := FU.out.ext xk0
                                          have FT : Hid (HV wk0 n15 [.int .i64 0, .int .i64 0, .int .i64 0]) := FT.out.ext xk0
                                          have FB : Hid (HV wk0 n16 [.int .i64 0, .int .i64 0, .int .i64 0]) := FB.out.ext xk0
                                          have FX : Hid (Ext w wk0) := FX.out.trans xk0
                                          clear qp0 qp1 qp2 qp3 qp8 qp9 qp10 qT0 qT1 qT2 kT0 kT1 kT2 zT0 zT1 zT2 xk0 HT
                                          have Fp : Hid (HV (((wk0.setCell ⟨n15, 0, none⟩ (.int .i64 T0)).setCell ⟨n15, 1, none⟩ (.int .i64 T1)).setCell ⟨n15, 2, none⟩ (.int .i64 T2)) np [.int .i64 (z 0), .int .i64 (z 1), .int .i64 (z 2), .int .i64 (z 3), .int .i64 (z 4), .int .i64 (z 5), .int .i64 (z 6), .int .i64 (z 7), .int .i64 (z 8), .int .i64 (z 9), .int .i64 (z 10), .int .i64 (z 11), .int .i64 (z 12), .int .i64 (z 13)]) := (((Fp.out.far (by omega)).far (by omega)).far (by omega))
                                          have FA : Hid (HV (((wk0.setCell ⟨n15, 0, none⟩ (.int .i64 T0)).setCell ⟨n15, 1, none⟩ (.int .i64 T1)).setCell ⟨n15, 2, none⟩ (.int .i64 T2)) n12 [.int .i64 A0, .int .i64 A1, .int .i64 A2, .int .i64 A3]) := (((FA.out.far (by omega)).far (by omega)).far (by omega))
                                          have FC : Hid (HV (((wk0.setCell ⟨n15, 0, none⟩ (.int .i64 T0)).setCell ⟨n15, 1, none⟩ (.int .i64 T1)).setCell ⟨n15, 2, none⟩ (.int .i64 T2)) n13 [.int .i64 C0, .int .i64 C1, .int .i64 C2, .int .i64 C3]) := (((FC.out.far (by omega)).far (by omega)).far (by omega))
                                          have FU : Hid (HV (((wk0.setCell ⟨n15, 0, none⟩ (.int .i64 T0)).setCell ⟨n15, 1, none⟩ (.int .i64 T1)).setCell ⟨n15, 2, none⟩ (.int .i64 T2)) n14 [.int .i64 U0, .int .i64 U1, .int .i64 U2, .int .i64 U3]) := (((FU.out.far (by omega)).far (by omega)).far (by omega))
                                          have FB : Hid (HV (((wk0.setCell ⟨n15, 0, none⟩ (.int .i64 T0)).setCell ⟨n15, 1, none⟩ (.int .i64 T1)).setCell ⟨n15, 2, none⟩ (.int .i64 T2)) n16 [.int .i64 0, .int .i64 0, .int .i64 0]) := (((FB.out.far (by omega)).far (by omega)).far (by omega))
                                          have FT : Hid (HV (((wk0.setCell ⟨n15, 0, none⟩ (.int .i64 T0)).setCell ⟨n15, 1, none⟩ (.int .i64 T1)).setCell ⟨n15, 2, none⟩ (.int .i64 T2)) n15 [.int .i64 T0, .int .i64 T1, .int .i64 T2]) := (((FT.out.set 0 (.int .i64 T0)).set 1 (.int .i64 T1)).set 2 (.int .i64 T2))
                                          have FX : Hid (Ext w (((wk0.setCell ⟨n15, 0, none⟩ (.int .i64 T0)).setCell ⟨n15, 1, none⟩ (.int .i64 T1)).setCell ⟨n15, 2, none⟩ (.int .i64 T2))) := (((FX.out.set (p := ⟨n15, 0, none⟩) LT.out (.int .i64 T0)).set (p := ⟨n15, 1, none⟩) LT.out (.int .i64 T1)).set (p := ⟨n15, 2, none⟩) LT.out (.int .i64 T2))
                                          generalize (((wk0.setCell ⟨n15, 0, none⟩ (.int .i64 T0)).setCell ⟨n15, 1, none⟩ (.int .i64 T1)).setCell ⟨n15, 2, none⟩ (.int .i64 T2)) = wx39 at *
                                          have qp0 : wx39.cell? ⟨np, 0, none⟩ = some (.int .i64 (z 0)) := Fp.out.c 0 rfl
                                          have qp1 : wx39.cell? ⟨np, 1, none⟩ = some (.int .i64 (z 1)) := Fp.out.c 1 rfl
                                          have qp2 : wx39.cell? ⟨np, 2, none⟩ = some (.int .i64 (z 2)) := Fp.out.c 2 rfl
                                          have qp3 : wx39.cell? ⟨np, 3, none⟩ = some (.int .i64 (z 3)) := Fp.out.c 3 rfl
                                          have qp8 : wx39.cell? ⟨np, 8, none⟩ = some (.int .i64 (z 8)) := Fp.out.c 8 rfl
                                          have qp9 : wx39.cell? ⟨np, 9, none⟩ = some (.int .i64 (z 9)) := Fp.out.c 9 rfl
                                          have qp10 : wx39.cell? ⟨np, 10, none⟩ = some (.int .i64 (z 10)) := Fp.out.c 10 rfl
                                          have qB0 : wx39.cell? ⟨n16, 0, none⟩ = some (.int .i64 0) := FB.out.c 0 rfl
                                          have zB0 : wx39.frozen? ⟨n16, 0, none⟩ = false := FB.out.f 0 rfl
                                          have qB1 : wx39.cell? ⟨n16, 1, none⟩ = some (.int .i64 0) := FB.out.c 1 rfl
                                          have zB1 : wx39.frozen? ⟨n16, 1, none⟩ = false := FB.out.f 1 rfl
                                          have qB2 : wx39.cell? ⟨n16, 2, none⟩ = some (.int .i64 0) := FB.out.c 2 rfl
                                          have zB2 : wx39.frozen? ⟨n16, 2, none⟩ = false := FB.out.f 2 rfl
                                          go_wp2_with (go_at_call 33; refine (HB.out _).mono ?_; rintro e wk1 ⟨rfl, xk1⟩; have kB0 : wk1.cell? ⟨n16, 0, none⟩ = some (.int .i64 0) := (FB.out.ext xk1).c 0 rfl; have zB0 : wk1.frozen? ⟨n16, 0, none⟩ = false := (FB.out.ext xk1).f 0 rfl; have kB1 : wk1.cell? ⟨n16, 1, none⟩ = some (.int .i64 0) := (FB.out.ext xk1).c 1 rfl; have zB1 : wk1.frozen? ⟨n16, 1, none⟩ = false := (FB.out.ext xk1).f 1 rfl; have kB2 : wk1.cell? ⟨n16, 2, none⟩ = some (.int .i64 0) := (FB.out.ext xk1).c 2 rfl; have zB2 : wk1.frozen? ⟨n16, 2, none⟩ = false := (FB.out.ext xk1).f 2 rfl)
                                          have Fp : Hid (HV wk1 np [.int .i64 (z 0), .int .i64 (z 1), .int .i64 (z 2), .int .i64 (z 3), .int .i64 (z 4), .int .i64 (z 5), .int .i64 (z 6), .int .i64 (z 7), .int .i64 (z 8), .int .i64 (z 9), .int .i64 (z 10), .int .i64 (z 11), .int .i64 (z 12), .int .i64 (z 13)]) := Fp.out.ext xk1
                                          have FA : Hid (HV wk1 n12 [.int .i64 A0, .int .i64 A1, .int .i64 A2, .int .i64 A3]) := FA.out.ext xk1
                                          have FC : Hid (HV wk1 n13 [.int .i64 C0, .int .i64 C1, .int .i64 C2, .int .i64 C3]) := FC.out.ext xk1
                                          have FU : Hid (HV wk1 n14 [.int .i64 U0, .int .i64 U1, .int .i64 U2, .int .i64 U3]) := FU.out.ext xk1
                                          have FT : Hid (HV wk1 n15 [.int .i64 T0, .int .i64 T1, .int .i64 T2]) := FT.out.ext xk1
                                          have FB : Hid (HV wk1 n16 [.int .i64 0, .int .i64 0, .int .i64 0]) := FB.out.ext xk1
                                          have FX : Hid (Ext w wk1) := FX.out.trans xk1
                                          go_meet
                                          exact ⟨rfl, rfl, (((Fp.out.far (by omega)).far (by omega)).far (by omega)), (((FA.out.far (by omega)).far (by omega)).far (by omega)), (((FC.out.far (by omega)).far (by omega)).far (by omega)), (((FU.out.far (by omega)).far (by omega)).far (by omega)), (((FT.out.far (by omega)).far (by omega)).far (by omega)), (((FB.out.set 0 (.int .i64 B0)).set 1 (.int .i64 B1)).set 2 (.int .i64 B2)), (((FX.out.set (p := ⟨n16, 0, none⟩) LB.out (.int .i64 B0)).set (p := ⟨n16, 1, none⟩) LB.out (.int .i64 B1)).set (p := ⟨n16, 2, none⟩) LB.out (.int .i64 B2))⟩
                                        · clear R3
                                          go_wp2_with fail
                                          go_meet
                                          exact ⟨rfl, rfl, Fp, FA, FC, FU, FT, FB, FX⟩
                                    case rest =>
                                      as_aux_lemma =>
                                        clear Fp FA FC FU FT FB FX R3
                                        obtain ⟨rfl, rfl, Fp, FA, FC, FU, FT, FB, FX⟩ := hcut
                                        generalize wc = wx9 at *
                                        as_aux_lemma =>
                                          have qp0 : wx9.cell? ⟨np, 0, none⟩ = some (.int .i64 (z 0)) := Fp.out.c 0 rfl
                                          have qp1 : wx9.cell? ⟨np, 1, none⟩ = some (.int .i64 (z 1)) := Fp.out.c 1 rfl
                                          have qp2 : wx9.cell? ⟨np, 2, none⟩ = some (.int .i64 (z 2)) := Fp.out.c 2 rfl
                                          have qp3 : wx9.cell? ⟨np, 3, none⟩ = some (.int .i64 (z 3)) := Fp.out.c 3 rfl
                                          have qp4 : wx9.cell? ⟨np, 4, none⟩ = some (.int .i64 (z 4)) := Fp.out.c 4 rfl
                                          have qp5 : wx9.cell? ⟨np, 5, none⟩ = some (.int .i64 (z 5)) := Fp.out.c 5 rfl
                                          have qp6 : wx9.cell? ⟨np, 6, none⟩ = some (.int .i64 (z 6)) := Fp.out.c 6 rfl
                                          have qp7 : wx9.cell? ⟨np, 7, none⟩ = some (.int .i64 (z 7)) := Fp.out.c 7 rfl
                                          go_upto_region 31 with (first | (go_at_call 34; refine (PA.out _).mono ?_; rintro e wa ⟨rfl, xa⟩))
                                          have Fp : Hid (HV wa np [.int .i64 (z 0), .int .i64 (z 1), .int .i64 (z 2), .int .i64 (z 3), .int .i64 (z 4), .int .i64 (z 5), .int .i64 (z 6), .int .i64 (z 7), .int .i64 (z 8), .int .i64 (z 9), .int .i64 (z 10), .int .i64 (z 11), .int .i64 (z 12), .int .i64 (z 13)]) := Fp.out.ext xa
                                          have FA : Hid (HV wa n12 [.int .i64 A0, .int .i64 A1, .int .i64 A2, .int .i64 A3]) := FA.out.ext xa
                                          have FC : Hid (HV wa n13 [.int .i64 C0, .int .i64 C1, .int .i64 C2, .int .i64 C3]) := FC.out.ext xa
                                          have FU : Hid (HV wa n14 [.int .i64 U0, .int .i64 U1, .int .i64 U2, .int .i64 U3]) := FU.out.ext xa
                                          have FT : Hid (HV wa n15 [.int .i64 T0, .int .i64 T1, .int .i64 T2]) := FT.out.ext xa
                                          have FB : Hid (HV wa n16 [.int .i64 B0, .int .i64 B1, .int .i64 B2]) := FB.out.ext xa
                                          have FX : Hid (Ext w wa) := FX.out.trans xa
                                          clear qp0 qp1 qp2 qp3 qp4 qp5 qp6 qp7 xa PA
                                          have ltpv : np < wa.heap.size := Fp.out.1
                                          have ltAv : n12 < wa.heap.size := FA.out.1
                                          have ltCv : n13 < wa.heap.size := FC.out.1
                                          have ltUv : n14 < wa.heap.size := FU.out.1
                                          have ltTv : n15 < wa.heap.size := FT.out.1
                                          have ltBv : n16 < wa.heap.size := FB.out.1
                                          have Lv : Hid (w.heap.size ≤ wa.heap.size) := FX.out.size
                                          have Fp : Hid (HV (wa.alloc (.cells #[.int .i64 A0, .int .i64 A1, .int .i64 A2, .int .i64 A3] 49)) np [.int .i64 (z 0), .int .i64 (z 1), .int .i64 (z 2), .int .i64 (z 3), .int .i64 (z 4), .int .i64 (z 5), .int .i64 (z 6), .int .i64 (z 7), .int .i64 (z 8), .int .i64 (z 9), .int .i64 (z 10), .int .i64 (z 11), .int .i64 (z 12), .int .i64 (z 13)]) := Fp.out.alloc _
                                          have FA : Hid (HV (wa.alloc (.cells #[.int .i64 A0, .int .i64 A1, .int .i64 A2, .int .i64 A3] 49)) n12 [.int .i64 A0, .int .i64 A1, .int .i64 A2, .int .i64 A3]) := FA.out.alloc _
                                          have FC : Hid (HV (wa.alloc (.cells #[.int .i64 A0, .int .i64 A1, .int .i64 A2, .int .i64 A3] 49)) n13 [.int .i64 C0, .int .i64 C1, .int .i64 C2, .int .i64 C3]) := FC.out.alloc _
                                          have FU : Hid (HV (wa.alloc (.cells #[.int .i64 A0, .int .i64 A1, .int .i64 A2, .int .i64 A3] 49)) n14 [.int .i64 U0, .int .i64 U1, .int .i64 U2, .int .i64 U3]) := FU.out.alloc _
                                          have FT : Hid (HV (wa.alloc (.cells #[.int .i64 A0, .int .i64 A1, .int .i64 A2, .int .i64 A3] 49)) n15 [.int .i64 T0, .int .i64 T1, .int .i64 T2]) := FT.out.alloc _
                                          have FB : Hid (HV (wa.alloc (.cells #[.int .i64 A0, .int .i64 A1, .int .i64 A2, .int .i64 A3] 49)) n16 [.int .i64 B0, .int .i64 B1, .int .i64 B2]) := FB.out.alloc _
                                          have Fv : Hid (HV (wa.alloc (.cells #[.int .i64 A0, .int .i64 A1, .int .i64 A2, .int .i64 A3] 49)) wa.heap.size [.int .i64 A0, .int .i64 A1, .int .i64 A2, .int .i64 A3]) := hv_at rfl
                                          have FX : Hid (Ext w (wa.alloc (.cells #[.int .i64 A0, .int .i64 A1, .int .i64 A2, .int .i64 A3] 49))) := FX.out.alloc _
                                          generalize (wa.alloc (.cells #[.int .i64 A0, .int .i64 A1, .int .i64 A2, .int .i64 A3] 49)) = wx10 at *
                                          generalize wa.heap.size = nv at *
                                          have qp0 : wx10.cell? ⟨np, 0, none⟩ = some (.int .i64 (z 0)) := Fp.out.c 0 rfl
                                          have qp1 : wx10.cell? ⟨np, 1, none⟩ = some (.int .i64 (z 1)) := Fp.out.c 1 rfl
                                          have qp2 : wx10.cell? ⟨np, 2, none⟩ = some (.int .i64 (z 2)) := Fp.out.c 2 rfl
                                          have qp3 : wx10.cell? ⟨np, 3, none⟩ = some (.int .i64 (z 3)) := Fp.out.c 3 rfl
                                          have qv0 : wx10.cell? ⟨nv, 0, none⟩ = some (.int .i64 A0) := Fv.out.c 0 rfl
                                          have qv1 : wx10.cell? ⟨nv, 1, none⟩ = some (.int .i64 A1) := Fv.out.c 1 rfl
                                          have qv2 : wx10.cell? ⟨nv, 2, none⟩ = some (.int .i64 A2) := Fv.out.c 2 rfl
                                          have qv3 : wx10.cell? ⟨nv, 3, none⟩ = some (.int .i64 A3) := Fv.out.c 3 rfl
                                          have qA0 : wx10.cell? ⟨n12, 0, none⟩ = some (.int .i64 A0) := FA.out.c 0 rfl
                                          have qA1 : wx10.cell? ⟨n12, 1, none⟩ = some (.int .i64 A1) := FA.out.c 1 rfl
                                          have qA2 : wx10.cell? ⟨n12, 2, none⟩ = some (.int .i64 A2) := FA.out.c 2 rfl
                                          have qA3 : wx10.cell? ⟨n12, 3, none⟩ = some (.int .i64 A3) := FA.out.c 3 rfl
                                          go_upto_region 33 with (first | (go_at_call 35; refine (num4_any _ _).mono ?_; rintro e wx ⟨rfl, hwx⟩; have hwy := hwx.symm; clear hwx; subst hwy) | (go_at_call 36; refine (CK.out _).mono ?_; rintro e wb ⟨rfl, xb⟩; have kv0 : wb.cell? ⟨nv, 0, none⟩ = some (.int .i64 A0) := (Fv.out.ext xb).c 0 rfl; have kv1 : wb.cell? ⟨nv, 1, none⟩ = some (.int .i64 A1) := (Fv.out.ext xb).c 1 rfl; have kv2 : wb.cell? ⟨nv, 2, none⟩ = some (.int .i64 A2) := (Fv.out.ext xb).c 2 rfl; have kv3 : wb.cell? ⟨nv, 3, none⟩ = some (.int .i64 A3) := (Fv.out.ext xb).c 3 rfl; have kA0 : wb.cell? ⟨n12, 0, none⟩ = some (.int .i64 A0) := (FA.out.ext xb).c 0 rfl; have kA1 : wb.cell? ⟨n12, 1, none⟩ = some (.int .i64 A1) := (FA.out.ext xb).c 1 rfl; have kA2 : wb.cell? ⟨n12, 2, none⟩ = some (.int .i64 A2) := (FA.out.ext xb).c 2 rfl; have kA3 : wb.cell? ⟨n12, 3, none⟩ = some (.int .i64 A3) := (FA.out.ext xb).c 3 rfl) | (go_at_call 37; refine (IA.out _).mono ?_; rintro e wd ⟨rfl, xd⟩; have xd : Ext wx10 wd := Ext.trans xb xd))
                                          have Fp : Hid (HV wd np [.int .i64 (z 0), .int .i64 (z 1), .int .i64 (z 2), .int .i64 (z 3), .int .i64 (z 4), .int .i64 (z 5), .int .i64 (z 6), .int .i64 (z 7), .int .i64 (z 8), .int .i64 (z 9), .int .i64 (z 10), .int .i64 (z 11), .int .i64 (z 12), .int .i64 (z 13)]) := Fp.out.ext xd
                                          have FA : Hid (HV wd n12 [.int .i64 A0, .int .i64 A1, .int .i64 A2, .int .i64 A3]) := FA.out.ext xd
                                          have FC : Hid (HV wd n13 [.int .i64 C0, .int .i64 C1, .int .i64 C2, .int .i64 C3]) := FC.out.ext xd
                                          have FU : Hid (HV wd n14 [.int .i64 U0, .int .i64 U1, .int .i64 U2, .int .i64 U3]) := FU.out.ext xd
                                          have FT : Hid (HV wd n15 [.int .i64 T0, .int .i64 T1, .int .i64 T2]) := FT.out.ext xd
                                          have FB : Hid (HV wd n16 [.int .i64 B0, .int .i64 B1, .int .i64 B2]) := FB.out.ext xd
                                          have Fv : Hid (HV wd nv [.int .i64 A0, .int .i64 A1, .int .i64 A2, .int .i64 A3]) := Fv.out.ext xd
                                          have FX : Hid (Ext w wd) := FX.out.trans xd
                                          clear qp0 qp1 qp2 qp3 qv0 qv1 qv2 qv3 qA0 qA1 qA2 qA3 xd xb CK IA kv0 kv1 kv2 kv3 kA0 kA1 kA2 kA3
                                          have qp0 : wd.cell? ⟨np, 0, none⟩ = some (.int .i64 (z 0)) := Fp.out.c 0 rfl
                                          have qp1 : wd.cell? ⟨np, 1, none⟩ = some (.int .i64 (z 1)) := Fp.out.c 1 rfl
                                          have qp2 : wd.cell? ⟨np, 2, none⟩ = some (.int .i64 (z 2)) := Fp.out.c 2 rfl
                                          have qp3 : wd.cell? ⟨np, 3, none⟩ = some (.int .i64 (z 3)) := Fp.out.c 3 rfl
                                          have qv0 : wd.cell? ⟨nv, 0, none⟩ = some (.int .i64 A0) := Fv.out.c 0 rfl
                                          have zv0 : wd.frozen? ⟨nv, 0, none⟩ = false := Fv.out.f 0 rfl
                                          have qv1 : wd.cell? ⟨nv, 1, none⟩ = some (.int .i64 A1) := Fv.out.c 1 rfl
                                          have zv1 : wd.frozen? ⟨nv, 1, none⟩ = false := Fv.out.f 1 rfl
                                          have qv2 : wd.cell? ⟨nv, 2, none⟩ = some (.int .i64 A2) := Fv.out.c 2 rfl
                                          have zv2 : wd.frozen? ⟨nv, 2, none⟩ = false := Fv.out.f 2 rfl
                                          have qv3 : wd.cell? ⟨nv, 3, none⟩ = some (.int .i64 A3) := Fv.out.c 3 rfl
                                          have zv3 : wd.frozen? ⟨nv, 3, none⟩ = false := Fv.out.f 3 rfl
                                          go_upto_region 34 with (first | (go_at_call 38; refine (PC.out _).mono ?_; rintro e wc1 ⟨rfl, xc1⟩; have kv0 : wc1.cell? ⟨nv, 0, none⟩ = some (.int .i64 A0) := (Fv.out.ext xc1).c 0 rfl; have zv0 : wc1.frozen? ⟨nv, 0, none⟩ = false := (Fv.out.ext xc1).f 0 rfl; have kv1 : wc1.cell? ⟨nv, 1, none⟩ = some (.int .i64 A1) := (Fv.out.ext xc1).c 1 rfl; have zv1 : wc1.frozen? ⟨nv, 1, none⟩ = false := (Fv.out.ext xc1).f 1 rfl; have kv2 : wc1.cell? ⟨nv, 2, none⟩ = some (.int .i64 A2) := (Fv.out.ext xc1).c 2 rfl; have zv2 : wc1.frozen? ⟨nv, 2, none⟩ = false := (Fv.out.ext xc1).f 2 rfl; have kv3 : wc1.cell? ⟨nv, 3, none⟩ = some (.int .i64 A3) := (Fv.out.ext xc1).c 3 rfl; have zv3 : wc1.frozen? ⟨nv, 3, none⟩ = false := (Fv.out.ext xc1).f 3 rfl))
                                          have Fp : Hid (HV wc1 np [.int .i64 (z 0), .int .i64 (z 1), .int .i64 (z 2), .int .i64 (z 3), .int .i64 (z 4), .int .i64 (z 5), .int .i64 (z 6), .int .i64 (z 7), .int .i64 (z 8), .int .i64 (z 9), .int .i64 (z 10), .int .i64 (z 11), .int .i64 (z 12), .int .i64 (z 13)]) := Fp.out.ext xc1
                                          have FA : Hid (HV wc1 n12 [.int .i64 A0, .int .i64 A1, .int .i64 A2, .int .i64 A3]) := FA.out.ext xc1
                                          have FC : Hid (HV wc1 n13 [.int .i64 C0, .int .i64 C1, .int .i64 C2, .int .i64 C3]) := FC.out.ext xc1
                                          have FU : Hid (HV wc1 n14 [.int .i64 U0, .int .i64 U1, .int .i64 U2, .int .i64 U3]) := FU.out.ext xc1
                                          have FT : Hid (HV wc1 n15 [.int .i64 T0, .int .i64 T1, .int .i64 T2]) := FT.out.ext xc1
                                          have FB : Hid (HV wc1 n16 [.int .i64 B0, .int .i64 B1, .int .i64 B2]) := FB.out.ext xc1
                                          have Fv : Hid (HV wc1 nv [.int .i64 A0, .int .i64 A1, .int .i64 A2, .int .i64 A3]) := Fv.out.ext xc1
                                          have FX : Hid (Ext w wc1) := FX.out.trans xc1
                                          clear qp0 qp1 qp2 qp3 qv0 qv1 qv2 qv3 kv0 kv1 kv2 kv3 zv0 zv1 zv2 zv3 xc1 PC
                                          have Fp : Hid (HV ((((wc1.setCell ⟨nv, 0, none⟩ (.int .i64 C0)).setCell ⟨nv, 1, none⟩ (.int .i64 C1)).setCell ⟨nv, 2, none⟩ (.int .i64 C2)).setCell ⟨nv, 3, none⟩ (.int .i64 C3)) np [.int .i64 (z 0), .int .i64 (z 1), .int .i64 (z 2), .int .i64 (z 3), .int .i64 (z 4), .int .i64 (z 5), .int .i64 (z 6), .int .i64 (z 7), .int .i64 (z 8), .int .i64 (z 9), .int .i64 (z 10), .int .i64 (z 11), .int .i64 (z 12), .int .i64 (z 13)]) := ((((Fp.out.far (by omega)).far (by omega)).far (by omega)).far (by omega))
                                          have FA : Hid (HV ((((wc1.setCell ⟨nv, 0, none⟩ (.int .i64 C0)).setCell ⟨nv, 1, none⟩ (.int .i64 C1)).setCell ⟨nv, 2, none⟩ (.int .i64 C2)).setCell ⟨nv, 3, none⟩ (.int .i64 C3)) n12 [.int .i64 A0, .int .i64 A1, .int .i64 A2, .int .i64 A3]) := ((((FA.out.far (by omega)).far (by omega)).far (by omega)).far (by omega))
                                          have FC : Hid (HV ((((wc1.setCell ⟨nv, 0, none⟩ (.int .i64 C0)).setCell ⟨nv, 1, none⟩ (.int .i64 C1)).setCell ⟨nv, 2, none⟩ (.int .i64 C2)).setCell ⟨nv, 3, none⟩ (.int .i64 C3)) n13 [.int .i64 C0, .int .i64 C1, .int .i64 C2, .int .i64 C3]) := ((((FC.out.far (by omega)).far (by omega)).far (by omega)).far (by omega))
                                          have FU : Hid (HV ((((wc1.setCell ⟨nv, 0, none⟩ (.int .i64 C0)).setCell ⟨nv, 1, none⟩ (.int .i64 C1)).setCell ⟨nv, 2, none⟩ (.int .i64 C2)).setCell ⟨nv, 3, none⟩ (.int .i64 C3)) n14 [.int .i64 U0, .int .i64 U1, .int .i64 U2, .int .i64 U3]) := ((((FU.out.far (by omega)).far (by omega)).far (by omega)).far (by omega))
                                          have FT : Hid (HV ((((wc1.setCell ⟨nv, 0, none⟩ (.int .i64 C0)).setCell ⟨nv, 1, none⟩ (.int .i64 C1)).setCell ⟨nv, 2, none⟩ (.int .i64 C2)).setCell ⟨nv, 3, none⟩ (.int .i64 C3)) n15 [.int .i64 T0, .int .i64 T1, .int .i64 T2]) := ((((FT.out.far (by omega)).far (by omega)).far (by omega)).far (by omega))
                                          have FB : Hid (HV ((((wc1.setCell ⟨nv, 0, none⟩ (.int .i64 C0)).setCell ⟨nv, 1, none⟩ (.int .i64 C1)).setCell ⟨nv, 2, none⟩ (.int .i64 C2)).setCell ⟨nv, 3, none⟩ (.int .i64 C3)) n16 [.int .i64 B0, .int .i64 B1, .int .i64 B2]) := ((((FB.out.far (by omega)).far (by omega)).far (by omega)).far (by omega))
                                          have Fv : Hid (HV ((((wc1.setCell ⟨nv, 0, none⟩ (.int .i64 C0)).setCell ⟨nv, 1, none⟩ (.int .i64 C1)).setCell ⟨nv, 2, none⟩ (.int .i64 C2)).setCell ⟨nv, 3, none⟩ (.int .i64 C3)) nv [.int .i64 C0, .int .i64 C1, .int .i64 C2, .int .i64 C3]) := ((((Fv.out.set 0 (.int .i64 C0)).set 1 (.int .i64 C1)).set 2 (.int .i64 C2)).set 3 (.int .i64 C3))
                                          have FX : Hid (Ext w ((((wc1.setCell ⟨nv, 0, none⟩ (.int .i64 C0)).setCell ⟨nv, 1, none⟩ (.int .i64 C1)).setCell ⟨nv, 2, none⟩ (.int .i64 C2)).setCell ⟨nv, 3, none⟩ (.int .i64 C3))) := ((((FX.out.set (p := ⟨nv, 0, none⟩) Lv.out (.int .i64 C0)).set (p := ⟨nv, 1, none⟩) Lv.out (.int .i64 C1)).set (p := ⟨nv, 2, none⟩) Lv.out (.int .i64 C2)).set (p := ⟨nv, 3, none⟩) Lv.out (.int .i64 C3))
                                          generalize ((((wc1.setCell ⟨nv, 0, none⟩ (.int .i64 C0)).setCell ⟨nv, 1, none⟩ (.int .i64 C1)).setCell ⟨nv, 2, none⟩ (.int .i64 C2)).setCell ⟨nv, 3, none⟩ (.int .i64 C3)) = wx11 at *
                                          have qv0 : wx11.cell? ⟨nv, 0, none⟩ = some (.int .i64 C0) := Fv.out.c 0 rfl
                                          have qv1 : wx11.cell? ⟨nv, 1, none⟩ = some (.int .i64 C1) := Fv.out.c 1 rfl
                                          have qv2 : wx11.cell? ⟨nv, 2, none⟩ = some (.int .i64 C2) := Fv.out.c 2 rfl
                                          have qv3 : wx11.cell? ⟨nv, 3, none⟩ = some (.int .i64 C3) := Fv.out.c 3 rfl
                                          have qC0 : wx11.cell? ⟨n13, 0, none⟩ = some (.int .i64 C0) := FC.out.c 0 rfl
                                          have qC1 : wx11.cell? ⟨n13, 1, none⟩ = some (.int .i64 C1) := FC.out.c 1 rfl
                                          have qC2 : wx11.cell? ⟨n13, 2, none⟩ = some (.int .i64 C2) := FC.out.c 2 rfl
                                          have qC3 : wx11.cell? ⟨n13, 3, none⟩ = some (.int .i64 C3) := FC.out.c 3 rfl
                                          go_upto_region 36 with (first | (go_at_call 37; refine (IC.out _).mono ?_; rintro e wc2 ⟨rfl, xc2⟩))
                                          have Fp : Hid (HV wc2 np [.int .i64 (z 0), .int .i64 (z 1), .int .i64 (z 2), .int .i64 (z 3), .int .i64 (z 4), .int .i64 (z 5), .int .i64 (z 6), .int .i64 (z 7), .int .i64 (z 8), .int .i64 (z 9), .int .i64 (z 10), .int .i64 (z 11), .int .i64 (z 12), .int .i64 (z 13)]) := Fp.out.ext xc2
                                          have FA : Hid (HV wc2 n12 [.int .i64 A0, .int .i64 A1, .int .i64 A2, .int .i64 A3]) := FA.out.ext xc2
                                          have FC : Hid (HV wc2 n13 [.int .i64 C0, .int .i64 C1, .int .i64 C2, .int .i64 C3]) := FC.out.ext xc2
                                          have FU : Hid (HV wc2 n14 [.int .i64 U0, .int .i64 U1, .int .i64 U2, .int .i64 U3]) := FU.out.ext xc2
                                          have FT : Hid (HV wc2 n15 [.int .i64 T0, .int .i64 T1, .int .i64 T2]) := FT.out.ext xc2
                                          have FB : Hid (HV wc2 n16 [.int .i64 B0, .int .i64 B1, .int .i64 B2]) := FB.out.ext xc2
                                          have Fv : Hid (HV wc2 nv [.int .i64 C0, .int .i64 C1, .int .i64 C2, .int .i64 C3]) := Fv.out.ext xc2
                                          have FX : Hid (Ext w wc2) := FX.out.trans xc2
                                          clear qv0 qv1 qv2 qv3 qC0 qC1 qC2 qC3 xc2 IC
                                          have qp0 : wc2.cell? ⟨np, 0, none⟩ = some (.int .i64 (z 0)) := Fp.out.c 0 rfl
                                          have qp1 : wc2.cell? ⟨np, 1, none⟩ = some (.int .i64 (z 1)) := Fp.out.c 1 rfl
                                          have qp2 : wc2.cell? ⟨np, 2, none⟩ = some (.int .i64 (z 2)) := Fp.out.c 2 rfl
                                          have qp3 : wc2.cell? ⟨np, 3, none⟩ = some (.int .i64 (z 3)) := Fp.out.c 3 rfl
                                          have qv0 : wc2.cell? ⟨nv, 0, none⟩ = some (.int .i64 C0) := Fv.out.c 0 rfl
                                          have zv0 : wc2.frozen? ⟨nv, 0, none⟩ = false := Fv.out.f 0 rfl
                                          have qv1 : wc2.cell? ⟨nv, 1, none⟩ = some (.int .i64 C1) := Fv.out.c 1 rfl
                                          have zv1 : wc2.frozen? ⟨nv, 1, none⟩ = false := Fv.out.f 1 rfl
                                          have qv2 : wc2.cell? ⟨nv, 2, none⟩ = some (.int .i64 C2) := Fv.out.c 2 rfl
                                          have zv2 : wc2.frozen? ⟨nv, 2, none⟩ = false := Fv.out.f 2 rfl
                                          have qv3 : wc2.cell? ⟨nv, 3, none⟩ = some (.int .i64 C3) := Fv.out.c 3 rfl
                                          have zv3 : wc2.frozen? ⟨nv, 3, none⟩ = false := Fv.out.f 3 rfl
                                          go_upto_region 37 with (first | (go_at_call 39; refine (PU.out _).mono ?_; rintro e wu1 ⟨rfl, xu1⟩; have kv0 : wu1.cell? ⟨nv, 0, none⟩ = some (.int .i64 C0) := (Fv.out.ext xu1).c 0 rfl; have zv0 : wu1.frozen? ⟨nv, 0, none⟩ = false := (Fv.out.ext xu1).f 0 rfl; have kv1 : wu1.cell? ⟨nv, 1, none⟩ = some (.int .i64 C1) := (Fv.out.ext xu1).c 1 rfl; have zv1 : wu1.frozen? ⟨nv, 1, none⟩ = false := (Fv.out.ext xu1).f 1 rfl; have kv2 : wu1.cell? ⟨nv, 2, none⟩ = some (.int .i64 C2) := (Fv.out.ext xu1).c 2 rfl; have zv2 : wu1.frozen? ⟨nv, 2, none⟩ = false := (Fv.out.ext xu1).f 2 rfl; have kv3 : wu1.cell? ⟨nv, 3, none⟩ = some (.int .i64 C3) := (Fv.out.ext xu1).c 3 rfl; have zv3 : wu1.frozen? ⟨nv, 3, none⟩ = false := (Fv.out.ext xu1).f 3 rfl))
                                          have Fp : Hid (HV wu1 np [.int .i64 (z 0), .int .i64 (z 1), .int .i64 (z 2), .int .i64 (z 3), .int .i64 (z 4), .int .i64 (z 5), .int .i64 (z 6), .int .i64 (z 7), .int .i64 (z 8), .int .i64 (z 9), .int .i64 (z 10), .int .i64 (z 11), .int .i64 (z 12), .int .i64 (z 13)]) := Fp.out.ext xu1
                                          have FA : Hid (HV wu1 n12 [.int .i64 A0, .int .i64 A1, .int .i64 A2, .int .i64 A3]) := FA.out.ext xu1
                                          have FC : Hid (HV wu1 n13 [.int .i64 C0, .int .i64 C1, .int .i64 C2, .int .i64 C3]) := FC.out.ext xu1
                                          have FU : Hid (HV wu1 n14 [.int .i64 U0, .int .i64 U1, .int .i64 U2, .int .i64 U3]) := FU.out.ext xu1
                                          have FT : Hid (HV wu1 n15 [.int .i64 T0, .int .i64 T1, .int .i64 T2]) := FT.out.ext xu1
                                          have FB : Hid (HV wu1 n16 [.int .i64 B0, .int .i64 B1, .int .i64 B2]) := FB.out.ext xu1
                                          have Fv : Hid (HV wu1 nv [.int .i64 C0, .int .i64 C1, .int .i64 C2, .int .i64 C3]) := Fv.out.ext xu1
                                          have FX : Hid (Ext w wu1) := FX.out.trans xu1
                                          clear qp0 qp1 qp2 qp3 qv0 qv1 qv2 qv3 kv0 kv1 kv2 kv3 zv0 zv1 zv2 zv3 xu1 PU
                                          have Fp : Hid (HV ((((wu1.setCell ⟨nv, 0, none⟩ (.int .i64 U0)).setCell ⟨nv, 1, none⟩ (.int .i64 U1)).setCell ⟨nv, 2, none⟩ (.int .i64 U2)).setCell ⟨nv, 3, none⟩ (.int .i64 U3)) np [.int .i64 (z 0), .int .i64 (z 1), .int .i64 (z 2), .int .i64 (z 3), .int .i64 (z 4), .int .i64 (z 5), .int .i64 (z 6), .int .i64 (z 7), .int .i64 (z 8), .int .i64 (z 9), .int .i64 (z 10), .int .i64 (z 11), .int .i64 (z 12), .int .i64 (z 13)]) := ((((Fp.out.far (by omega)).far (by omega)).far (by omega)).far (by omega))
                                          have FA : Hid (HV ((((wu1.setCell ⟨nv, 0, none⟩ (.int .i64 U0)).setCell ⟨nv, 1, none⟩ (.int .i64 U1)).setCell ⟨nv, 2, none⟩ (.int .i64 U2)).setCell ⟨nv, 3, none⟩ (.int .i64 U3)) n12 [.int .i64 A0, .int .i64 A1, .int .i64 A2, .int .i64 A3]) := ((((FA.out.far (by omega)).far (by omega)).far (by omega)).far (by omega))
                                          have FC : Hid (HV ((((wu1.setCell ⟨nv, 0, none⟩ (.int .i64 U0)).setCell ⟨nv, 1, none⟩ (.int .i64 U1)).setCell ⟨nv, 2, none⟩ (.int .i64 U2)).setCell ⟨nv, 3, none⟩ (.int .i64 U3)) n13 [.int .i64 C0, .int .i64 C1, .int .i64 C2, .int .i64 C3]) := ((((FC.out.far (by omega)).far (by omega)).far (by omega)).far (by omega))
                                          have FU : Hid (HV ((((wu1.setCell ⟨nv, 0, none⟩ (.int .i64 U0)).setCell ⟨nv, 1, none⟩ (.int .i64 U1)).setCell ⟨nv, 2, none⟩ (.int .i64 U2)).setCell ⟨nv, 3, none⟩ (.int .i64 U3)) n14 [.int .i64 U0, .int .i64 U1, .int .i64 U2, .int .i64 U3]) := ((((FU.out.far (by omega)).far (by omega)).far (by omega)).far (by omega))
                                          have FT : Hid (HV ((((wu1.setCell ⟨nv, 0, none⟩ (.int .i64 U0)).setCell ⟨nv, 1, none⟩ (.int .i64 U1)).setCell ⟨nv, 2, none⟩ (.int .i64 U2)).setCell ⟨nv, 3, none⟩ (.int .i64 U3)) n15 [.int .i64 T0, .int .i64 T1, .int .i64 T2]) := ((((FT.out.far (by omega)).far (by omega)).far (by omega)).far (by omega))
                                          have FB : Hid (HV ((((wu1.setCell ⟨nv, 0, none⟩ (.int .i64 U0)).setCell ⟨nv, 1, none⟩ (.int .i64 U1)).setCell ⟨nv, 2, none⟩ (.int .i64 U2)).setCell ⟨nv, 3, none⟩ (.int .i64 U3)) n16 [.int .i64 B0, .int .i64 B1, .int .i64 B2]) := ((((FB.out.far (by omega)).far (by omega)).far (by omega)).far (by omega))
                                          have Fv : Hid (HV ((((wu1.setCell ⟨nv, 0, none⟩ (.int .i64 U0)).setCell ⟨nv, 1, none⟩ (.int .i64 U1)).setCell ⟨nv, 2, none⟩ (.int .i64 U2)).setCell ⟨nv, 3, none⟩ (.int .i64 U3)) nv [.int .i64 U0, .int .i64 U1, .int .i64 U2, .int .i64 U3]) := ((((Fv.out.set 0 (.int .i64 U0)).set 1 (.int .i64 U1)).set 2 (.int .i64 U2)).set 3 (.int .i64 U3))
                                          have FX : Hid (Ext w ((((wu1.setCell ⟨nv, 0, none⟩ (.int .i64 U0)).setCell ⟨nv, 1, none⟩ (.int .i64 U1)).setCell ⟨nv, 2, none⟩ (.int .i64 U2)).setCell ⟨nv, 3, none⟩ (.int .i64 U3))) := ((((FX.out.set (p := ⟨nv, 0, none⟩) Lv.out (.int .i64 U0)).set (p := ⟨nv, 1, none⟩) Lv.out (.int .i64 U1)).set (p := ⟨nv, 2, none⟩) Lv.out (.int .i64 U2)).set (p := ⟨nv, 3, none⟩) Lv.out (.int .i64 U3))
                                          generalize ((((wu1.setCell ⟨nv, 0, none⟩ (.int .i64 U0)).setCell ⟨nv, 1, none⟩ (.int .i64 U1)).setCell ⟨nv, 2, none⟩ (.int .i64 U2)).setCell ⟨nv, 3, none⟩ (.int .i64 U3)) = wx12 at *
                                          have qv0 : wx12.cell? ⟨nv, 0, none⟩ = some (.int .i64 U0) := Fv.out.c 0 rfl
                                          have qv1 : wx12.cell? ⟨nv, 1, none⟩ = some (.int .i64 U1) := Fv.out.c 1 rfl
                                          have qv2 : wx12.cell? ⟨nv, 2, none⟩ = some (.int .i64 U2) := Fv.out.c 2 rfl
                                          have qv3 : wx12.cell? ⟨nv, 3, none⟩ = some (.int .i64 U3) := Fv.out.c 3 rfl
                                          have qU0 : wx12.cell? ⟨n14, 0, none⟩ = some (.int .i64 U0) := FU.out.c 0 rfl
                                          have qU1 : wx12.cell? ⟨n14, 1, none⟩ = some (.int .i64 U1) := FU.out.c 1 rfl
                                          have qU2 : wx12.cell? ⟨n14, 2, none⟩ = some (.int .i64 U2) := FU.out.c 2 rfl
                                          have qU3 : wx12.cell? ⟨n14, 3, none⟩ = some (.int .i64 U3) := FU.out.c 3 rfl
                                          go_upto_region 39 with (first | (go_at_call 37; refine (IU.out _).mono ?_; rintro e wu2 ⟨rfl, xu2⟩))
                                          have Fp : Hid (HV wu2 np [.int .i64 (z 0), .int .i64 (z 1), .int .i64 (z 2), .int .i64 (z 3), .int .i64 (z 4), .int .i64 (z 5), .int .i64 (z 6), .int .i64 (z 7), .int .i64 (z 8), .int .i64 (z 9), .int .i64 (z 10), .int .i64 (z 11), .int .i64 (z 12), .int .i64 (z 13)]) := Fp.out.ext xu2
                                          have FA : Hid (HV wu2 n12 [.int .i64 A0, .int .i64 A1, .int .i64 A2, .int .i64 A3]) := FA.out.ext xu2
                                          have FC : Hid (HV wu2 n13 [.int .i64 C0, .int .i64 C1, .int .i64 C2, .int .i64 C3]) := FC.out.ext xu2
                                          have FU : Hid (HV wu2 n14 [.int .i64 U0, .int .i64 U1, .int .i64 U2, .int .i64 U3]) := FU.out.ext xu2
                                          have FT : Hid (HV wu2 n15 [.int .i64 T0, .int .i64 T1, .int .i64 T2]) := FT.out.ext xu2
                                          have FB : Hid (HV wu2 n16 [.int .i64 B0, .int .i64 B1, .int .i64 B2]) := FB.out.ext xu2
                                          have Fv : Hid (HV wu2 nv [.int .i64 U0, .int .i64 U1, .int .i64 U2, .int .i64 U3]) := Fv.out.ext xu2
                                          have FX : Hid (Ext w wu2) := FX.out.trans xu2
                                          clear qv0 qv1 qv2 qv3 qU0 qU1 qU2 qU3 xu2 IU
                                          have qp0 : wu2.cell? ⟨np, 0, none⟩ = some (.int .i64 (z 0)) := Fp.out.c 0 rfl
                                          have qp1 : wu2.cell? ⟨np, 1, none⟩ = some (.int .i64 (z 1)) := Fp.out.c 1 rfl
                                          have qp2 : wu2.cell? ⟨np, 2, none⟩ = some (.int .i64 (z 2)) := Fp.out.c 2 rfl
                                          have qp3 : wu2.cell? ⟨np, 3, none⟩ = some (.int .i64 (z 3)) := Fp.out.c 3 rfl
                                          go_upto_region 40 with (first | (go_at_call 40; refine (PN.out _).mono ?_; rintro e we ⟨rfl, xe⟩))
                                          have Fp : Hid (HV we np [.int .i64 (z 0), .int .i64 (z 1), .int .i64 (z 2), .int .i64 (z 3), .int .i64 (z 4), .int .i64 (z 5), .int .i64 (z 6), .int .i64 (z 7), .int .i64 (z 8), .int .i64 (z 9), .int .i64 (z 10), .int .i64 (z 11), .int .i64 (z 12), .int .i64 (z 13)]) := Fp.out.ext xe
                                          have FA : Hid (HV we n12 [.int .i64 A0, .int .i64 A1, .int .i64 A2, .int .i64 A3]) := FA.out.ext xe
                                          have FC : Hid (HV we n13 [.int .i64 C0, .int .i64 C1, .int .i64 C2, .int .i64 C3]) := FC.out.ext xe
                                          have FU : Hid (HV we n14 [.int .i64 U0, .int .i64 U1, .int .i64 U2, .int .i64 U3]) := FU.out.ext xe
                                          have FT : Hid (HV we n15 [.int .i64 T0, .int .i64 T1, .int .i64 T2]) := FT.out.ext xe
                                          have FB : Hid (HV we n16 [.int .i64 B0, .int .i64 B1, .int .i64 B2]) := FB.out.ext xe
                                          have Fv : Hid (HV we nv [.int .i64 U0, .int .i64 U1, .int .i64 U2, .int .i64 U3]) := Fv.out.ext xe
                                          have FX : Hid (Ext w we) := FX.out.trans xe
                                          clear qp0 qp1 qp2 qp3 xe PN
                                          go_upto_region 42 with (first | (go_at_call 35; refine (num4_any _ _).mono ?_; rintro e wx ⟨rfl, hwx⟩; have hwy := hwx.symm; clear hwx; subst hwy))
                                          have qp0 : we.cell? ⟨np, 0, none⟩ = some (.int .i64 (z 0)) := Fp.out.c 0 rfl
                                          have qp1 : we.cell? ⟨np, 1, none⟩ = some (.int .i64 (z 1)) := Fp.out.c 1 rfl
                                          have qp2 : we.cell? ⟨np, 2, none⟩ = some (.int .i64 (z 2)) := Fp.out.c 2 rfl
                                          have qp3 : we.cell? ⟨np, 3, none⟩ = some (.int .i64 (z 3)) := Fp.out.c 3 rfl
                                          have qp8 : we.cell? ⟨np, 8, none⟩ = some (.int .i64 (z 8)) := Fp.out.c 8 rfl
                                          have qp9 : we.cell? ⟨np, 9, none⟩ = some (.int .i64 (z 9)) := Fp.out.c 9 rfl
                                          have qp10 : we.cell? ⟨np, 10, none⟩ = some (.int .i64 (z 10)) := Fp.out.c 10 rfl
                                          go_upto_region 43 with (first | (go_at_call 41; refine (PT.out _).mono ?_; rintro e wt ⟨rfl, xt⟩))
                                          have Fp : Hid (HV wt np [.int .i64 (z 0), .int .i64 (z 1), .int .i64 (z 2), .int .i64 (z 3), .int .i64 (z 4), .int .i64 (z 5), .int .i64 (z 6), .int .i64 (z 7), .int .i64 (z 8), .int .i64 (z 9), .int .i64 (z 10), .int .i64 (z 11), .int .i64 (z 12), .int .i64 (z 13)]) := Fp.out.ext xt
                                          have FA : Hid (HV wt n12 [.int .i64 A0, .int .i64 A1, .int .i64 A2, .int .i64 A3]) := FA.out.ext xt
                                          have FC : Hid (HV wt n13 [.int .i64 C0, .int .i64 C1, .int .i64 C2, .int .i64 C3]) := FC.out.ext xt
                                          have FU : Hid (HV wt n14 [.int .i64 U0, .int .i64 U1, .int .i64 U2, .int .i64 U3]) := FU.out.ext xt
                                          have FT : Hid (HV wt n15 [.int .i64 T0, .int .i64 T1, .int .i64 T2]) := FT.out.ext xt
                                          have FB : Hid (HV wt n16 [.int .i64 B0, .int .i64 B1, .int .i64 B2]) := FB.out.ext xt
                                          have Fv : Hid (HV wt nv [.int .i64 U0, .int .i64 U1, .int .i64 U2, .int .i64 U3]) := Fv.out.ext xt
                                          have FX : Hid (Ext w wt) := FX.out.trans xt
                                          clear qp0 qp1 qp2 qp3 qp8 qp9 qp10 xt PT
                                          have ltpx : np < wt.heap.size := Fp.out.1
                                          have ltAx : n12 < wt.heap.size := FA.out.1
                                          have ltCx : n13 < wt.heap.size := FC.out.1
                                          have ltUx : n14 < wt.heap.size := FU.out.1
                                          have ltTx : n15 < wt.heap.size := FT.out.1
                                          have ltBx : n16 < wt.heap.size := FB.out.1
                                          have ltvx : nv < wt.heap.size := Fv.out.1
                                          have Lx : Hid (w.heap.size ≤ wt.heap.size) := FX.out.size
                                          have Fp : Hid (HV (wt.alloc (.cells #[.int .i64 T0, .int .i64 T1, .int .i64 T2] 24)) np [.int .i64 (z 0), .int .i64 (z 1), .int .i64 (z 2), .int .i64 (z 3), .int .i64 (z 4), .int .i64 (z 5), .int .i64 (z 6), .int .i64 (z 7), .int .i64 (z 8), .int .i64 (z 9), .int .i64 (z 10), .int .i64 (z 11), .int .i64 (z 12), .int .i64 (z 13)]) := Fp.out.alloc _
                                          have FA : Hid (HV (wt.alloc (.cells #[.int .i64 T0, .int .i64 T1, .int .i64 T2] 24)) n12 [.int .i64 A0, .int .i64 A1, .int .i64 A2, .int .i64 A3]) := FA.out.alloc _
                                          have FC : Hid (HV (wt.alloc (.cells #[.int .i64 T0, .int .i64 T1, .int .i64 T2] 24)) n13 [.int .i64 C0, .int .i64 C1, .int .i64 C2, .int .i64 C3]) := FC.out.alloc _
                                          have FU : Hid (HV (wt.alloc (.cells #[.int .i64 T0, .int .i64 T1, .int .i64 T2] 24)) n14 [.int .i64 U0, .int .i64 U1, .int .i64 U2, .int .i64 U3]) := FU.out.alloc _
                                          have FT : Hid (HV (wt.alloc (.cells #[.int .i64 T0, .int .i64 T1, .int .i64 T2] 24)) n15 [.int .i64 T0, .int .i64 T1, .int .i64 T2]) := FT.out.alloc _
                                          have FB : Hid (HV (wt.alloc (.cells #[.int .i64 T0, .int .i64 T1, .int .i64 T2] 24)) n16 [.int .i64 B0, .int .i64 B1, .int .i64 B2]) := FB.out.alloc _
                                          have Fv : Hid (HV (wt.alloc (.cells #[.int .i64 T0, .int .i64 T1, .int .i64 T2] 24)) nv [.int .i64 U0, .int .i64 U1, .int .i64 U2, .int .i64 U3]) := Fv.out.alloc _
                                          have Fx : Hid (HV (wt.alloc (.cells #[.int .i64 T0, .int .i64 T1, .int .i64 T2] 24)) wt.heap.size [.int .i64 T0, .int .i64 T1, .int .i64 T2]) := hv_at rfl
                                          have FX : Hid (Ext w (wt.alloc (.cells #[.int .i64 T0, .int .i64 T1, .int .i64 T2] 24))) := FX.out.alloc _
                                          generalize (wt.alloc (.cells #[.int .i64 T0, .int .i64 T1, .int .i64 T2] 24)) = wx13 at *
                                          generalize wt.heap.size = nx at *
                                          have qx0 : wx13.cell? ⟨nx, 0, none⟩ = some (.int .i64 T0) := Fx.out.c 0 rfl
                                          have qx1 : wx13.cell? ⟨nx, 1, none⟩ = some (.int .i64 T1) := Fx.out.c 1 rfl
                                          have qx2 : wx13.cell? ⟨nx, 2, none⟩ = some (.int .i64 T2) := Fx.out.c 2 rfl
                                          have qT0 : wx13.cell? ⟨n15, 0, none⟩ = some (.int .i64 T0) := FT.out.c 0 rfl
                                          have qT1 : wx13.cell? ⟨n15, 1, none⟩ = some (.int .i64 T1) := FT.out.c 1 rfl
                                          have qT2 : wx13.cell? ⟨n15, 2, none⟩ = some (.int .i64 T2) := FT.out.c 2 rfl
                                          go_upto_region 45 with (first | (go_at_call 42; refine (IT.out _).mono ?_; rintro e wt2 ⟨rfl, xt2⟩))
                                          have Fp : Hid (HV wt2 np [.int .i64 (z 0), .int .i64 (z 1), .int .i64 (z 2), .int .i64 (z 3), .int .i64 (z 4), .int .i64 (z 5), .int .i64 (z 6), .int .i64 (z 7), .int .i64 (z 8), .int .i64 (z 9), .int .i64 (z 10), .int .i64 (z 11), .int .i64 (z 12), .int .i64 (z 13)]) := Fp.out.ext xt2
                                          have FA : Hid (HV wt2 n12 [.int .i64 A0, .int .i64 A1, .int .i64 A2, .int .i64 A3]) := FA.out.ext xt2
                                          have FC : Hid (HV wt2 n13 [.int .i64 C0, .int .i64 C1, .int .i64 C2, .int .i64 C3]) := FC.out.ext xt2
                                          have FU : Hid (HV wt2 n14 [.int .i64 U0, .int .i64 U1, .int .i64 U2, .int .i64 U3]) := FU.out.ext xt2
                                          have FT : Hid (HV wt2 n15 [.int .i64 T0, .int .i64 T1, .int .i64 T2]) := FT.out.ext xt2
                                          have FB : Hid (HV wt2 n16 [.int .i64 B0, .int .i64 B1, .int .i64 B2]) := FB.out.ext xt2
                                          have Fv : Hid (HV wt2 nv [.int .i64 U0, .int .i64 U1, .int .i64 U2, .int .i64 U3]) := Fv.out.ext xt2
                                          have Fx : Hid (HV wt2 nx [.int .i64 T0, .int .i64 T1, .int .i64 T2]) := Fx.out.ext xt2
                                          have FX : Hid (Ext w wt2) := FX.out.trans xt2
                                          clear qx0 qx1 qx2 qT0 qT1 qT2 xt2 IT
                                          have qp0 : wt2.cell? ⟨np, 0, none⟩ = some (.int .i64 (z 0)) := Fp.out.c 0 rfl
                                          have qp1 : wt2.cell? ⟨np, 1, none⟩ = some (.int .i64 (z 1)) := Fp.out.c 1 rfl
                                          have qp2 : wt2.cell? ⟨np, 2, none⟩ = some (.int .i64 (z 2)) := Fp.out.c 2 rfl
                                          have qp3 : wt2.cell? ⟨np, 3, none⟩ = some (.int .i64 (z 3)) := Fp.out.c 3 rfl
                                          have qp8 : wt2.cell? ⟨np, 8, none⟩ = some (.int .i64 (z 8)) := Fp.out.c 8 rfl
                                          have qp9 : wt2.cell? ⟨np, 9, none⟩ = some (.int .i64 (z 9)) := Fp.out.c 9 rfl
                                          have qp10 : wt2.cell? ⟨np, 10, none⟩ = some (.int .i64 (z 10)) := Fp.out.c 10 rfl
                                          have qx0 : wt2.cell? ⟨nx, 0, none⟩ = some (.int .i64 T0) := Fx.out.c 0 rfl
                                          have zx0 : wt2.frozen? ⟨nx, 0, none⟩ = false := Fx.out.f 0 rfl
                                          have qx1 : wt2.cell? ⟨nx, 1, none⟩ = some (.int .i64 T1) := Fx.out.c 1 rfl
                                          have zx1 : wt2.frozen? ⟨nx, 1, none⟩ = false := Fx.out.f 1 rfl
                                          have qx2 : wt2.cell? ⟨nx, 2, none⟩ = some (.int .i64 T2) := Fx.out.c 2 rfl
                                          have zx2 : wt2.frozen? ⟨nx, 2, none⟩ = false := Fx.out.f 2 rfl
                                          go_upto_region 46 with (first | (go_at_call 43; refine (PB.out _).mono ?_; rintro e wb1 ⟨rfl, xb1⟩; have kx0 : wb1.cell? ⟨nx, 0, none⟩ = some (.int .i64 T0) := (Fx.out.ext xb1).c 0 rfl; have zx0 : wb1.frozen? ⟨nx, 0, none⟩ = false := (Fx.out.ext xb1).f 0 rfl; have kx1 : wb1.cell? ⟨nx, 1, none⟩ = some (.int .i64 T1) := (Fx.out.ext xb1).c 1 rfl; have zx1 : wb1.frozen? ⟨nx, 1, none⟩ = false := (Fx.out.ext xb1).f 1 rfl; have kx2 : wb1.cell? ⟨nx, 2, none⟩ = some (.int .i64 T2) := (Fx.out.ext xb1).c 2 rfl; have zx2 : wb1.frozen? ⟨nx, 2, none⟩ = false := (Fx.out.ext xb1).f 2 rfl))
                                          have Fp : Hid (HV wb1 np [.int .i64 (z 0), .int .i64 (z 1), .int .i64 (z 2), .int .i64 (z 3), .int .i64 (z 4), .int .i64 (z 5), .int .i64 (z 6), .int .i64 (z 7), .int .i64 (z 8), .int .i64 (z 9), .int .i64 (z 10), .int .i64 (z 11), .int .i64 (z 12), .int .i64 (z 13)]) := Fp.out.ext xb1
                                          have FA : Hid (HV wb1 n12 [.int .i64 A0, .int .i64 A1, .int .i64 A2, .int .i64 A3]) := FA.out.ext xb1
                                          have FC : Hid (HV wb1 n13 [.int .i64 C0, .int .i64 C1, .int .i64 C2, .int .i64 C3]) := FC.out.ext xb1
                                          have FU : Hid (HV wb1 n14 [.int .i64 U0, .int .i64 U1, .int .i64 U2, .int .i64 U3]) := FU.out.ext xb1
                                          have FT : Hid (HV wb1 n15 [.int .i64 T0, .int .i64 T1, .int .i64 T2]) := FT.out.ext xb1
                                          have FB : Hid (HV wb1 n16 [.int .i64 B0, .int .i64 B1, .int .i64 B2]) := FB.out.ext xb1
                                          have Fv : Hid (HV wb1 nv [.int .i64 U0, .int .i64 U1, .int .i64 U2, .int .i64 U3]) := Fv.out.ext xb1
                                          have Fx : Hid (HV wb1 nx [.int .i64 T0, .int .i64 T1, .int .i64 T2]) := Fx.out.ext xb1
                                          have FX : Hid (Ext w wb1) := FX.out.trans xb1
                                          clear qp0 qp1 qp2 qp3 qp8 qp9 qp10 qx0 qx1 qx2 kx0 kx1 kx2 zx0 zx1 zx2 xb1 PB
                                          have Fp : Hid (HV (((wb1.setCell ⟨nx, 0, none⟩ (.int .i64 B0)).setCell ⟨nx, 1, none⟩ (.int .i64 B1)).setCell ⟨nx, 2, none⟩ (.int .i64 B2)) np [.int .i64 (z 0), .int .i64 (z 1), .int .i64 (z 2), .int .i64 (z 3), .int .i64 (z 4), .int .i64 (z 5), .int .i64 (z 6), .int .i64 (z 7), .int .i64 (z 8), .int .i64 (z 9), .int .i64 (z 10), .int .i64 (z 11), .int .i64 (z 12), .int .i64 (z 13)]) := (((Fp.out.far (by omega)).far (by omega)).far (by omega))
                                          have FA : Hid (HV (((wb1.setCell ⟨nx, 0, none⟩ (.int .i64 B0)).setCell ⟨nx, 1, none⟩ (.int .i64 B1)).setCell ⟨nx, 2, none⟩ (.int .i64 B2)) n12 [.int .i64 A0, .int .i64 A1, .int .i64 A2, .int .i64 A3]) := (((FA.out.far (by omega)).far (by omega)).far (by omega))
                                          have FC : Hid (HV (((wb1.setCell ⟨nx, 0, none⟩ (.int .i64 B0)).setCell ⟨nx, 1, none⟩ (.int .i64 B1)).setCell ⟨nx, 2, none⟩ (.int .i64 B2)) n13 [.int .i64 C0, .int .i64 C1, .int .i64 C2, .int .i64 C3]) := (((FC.out.far (by omega)).far (by omega)).far (by omega))
                                          have FU : Hid (HV (((wb1.setCell ⟨nx, 0, none⟩ (.int .i64 B0)).setCell ⟨nx, 1, none⟩ (.int .i64 B1)).setCell ⟨nx, 2, none⟩ (.int .i64 B2)) n14 [.int .i64 U0, .int .i64 U1, .int .i64 U2, .int .i64 U3]) := (((FU.out.far (by omega)).far (by omega)).far (by omega))
                                          have FT : Hid (HV (((wb1.setCell ⟨nx, 0, none⟩ (.int .i64 B0)).setCell ⟨nx, 1, none⟩ (.int .i64 B1)).setCell ⟨nx, 2, none⟩ (.int .i64 B2)) n15 [.int .i64 T0, .int .i64 T1, .int .i64 T2]) := (((FT.out.far (by omega)).far (by omega)).far (by omega))
                                          have FB : Hid (HV (((wb1.setCell ⟨nx, 0, none⟩ (.int .i64 B0)).setCell ⟨nx, 1, none⟩ (.int .i64 B1)).setCell ⟨nx, 2, none⟩ (.int .i64 B2)) n16 [.int .i64 B0, .int .i64 B1, .int .i64 B2]) := (((FB.out.far (by omega)).far (by omega)).far (by omega))
                                          have Fv : Hid (HV (((wb1.setCell ⟨nx, 0, none⟩ (.int .i64 B0)).setCell ⟨nx, 1, none⟩ (.int .i64 B1)).setCell ⟨nx, 2, none⟩ (.int .i64 B2)) nv [.int .i64 U0, .int .i64 U1, .int .i64 U2, .int .i64 U3]) := (((Fv.out.far (by omega)).far (by omega)).far (by omega))
                                          have Fx : Hid (HV (((wb1.setCell ⟨nx, 0, none⟩ (.int .i64 B0)).setCell ⟨nx, 1, none⟩ (.int .i64 B1)).setCell ⟨nx, 2, none⟩ (.int .i64 B2)) nx [.int .i64 B0, .int .i64 B1, .int .i64 B2]) := (((Fx.out.set 0 (.int .i64 B0)).set 1 (.int .i64 B1)).set 2 (.int .i64 B2))
                                          have FX : Hid (Ext w (((wb1.setCell ⟨nx, 0, none⟩ (.int .i64 B0)).setCell ⟨nx, 1, none⟩ (.int .i64 B1)).setCell ⟨nx, 2, none⟩ (.int .i64 B2))) := (((FX.out.set (p := ⟨nx, 0, none⟩) Lx.out (.int .i64 B0)).set (p := ⟨nx, 1, none⟩) Lx.out (.int .i64 B1)).set (p := ⟨nx, 2, none⟩) Lx.out (.int .i64 B2))
                                          generalize (((wb1.setCell ⟨nx, 0, none⟩ (.int .i64 B0)).setCell ⟨nx, 1, none⟩ (.int .i64 B1)).setCell ⟨nx, 2, none⟩ (.int .i64 B2)) = wx14 at *
                                          have qx0 : wx14.cell? ⟨nx, 0, none⟩ = some (.int .i64 B0) := Fx.out.c 0 rfl
                                          have qx1 : wx14.cell? ⟨nx, 1, none⟩ = some (.int .i64 B1) := Fx.out.c 1 rfl
                                          have qx2 : wx14.cell? ⟨nx, 2, none⟩ = some (.int .i64 B2) := Fx.out.c 2 rfl
                                          have qB0 : wx14.cell? ⟨n16, 0, none⟩ = some (.int .i64 B0) := FB.out.c 0 rfl
                                          have qB1 : wx14.cell? ⟨n16, 1, none⟩ = some (.int .i64 B1) := FB.out.c 1 rfl
                                          have qB2 : wx14.cell? ⟨n16, 2, none⟩ = some (.int .i64 B2) := FB.out.c 2 rfl
                                          go_wp2_with (go_at_call 42; refine (IB.out _).mono ?_; rintro e wb2 ⟨rfl, xb2⟩)
                                          have Fp : Hid (HV wb2 np [.int .i64 (z 0), .int .i64 (z 1), .int .i64 (z 2), .int .i64 (z 3), .int .i64 (z 4), .int .i64 (z 5), .int .i64 (z 6), .int .i64 (z 7), .int .i64 (z 8), .int .i64 (z 9), .int .i64 (z 10), .int .i64 (z 11), .int .i64 (z 12), .int .i64 (z 13)]) := Fp.out.ext xb2
                                          have FA : Hid (HV wb2 n12 [.int .i64 A0, .int .i64 A1, .int .i64 A2, .int .i64 A3]) := FA.out.ext xb2
                                          have FC : Hid (HV wb2 n13 [.int .i64 C0, .int .i64 C1, .int .i64 C2, .int .i64 C3]) := FC.out.ext xb2
                                          have FU : Hid (HV wb2 n14 [.int .i64 U0, .int .i64 U1, .int .i64 U2, .int .i64 U3]) := FU.out.ext xb2
                                          have FT : Hid (HV wb2 n15 [.int .i64 T0, .int .i64 T1, .int .i64 T2]) := FT.out.ext xb2
                                          have FB : Hid (HV wb2 n16 [.int .i64 B0, .int .i64 B1, .int .i64 B2]) := FB.out.ext xb2
                                          have Fv : Hid (HV wb2 nv [.int .i64 U0, .int .i64 U1, .int .i64 U2, .int .i64 U3]) := Fv.out.ext xb2
                                          have Fx : Hid (HV wb2 nx [.int .i64 B0, .int .i64 B1, .int .i64 B2]) := Fx.out.ext xb2
                                          have FX : Hid (Ext w wb2) := FX.out.trans xb2
                                          go_roundw
                                          case rel => exact ⟨k + 1, by omega, by go_num, FX⟩
                                          case measure => simp [intOf]; omega
      · go_wp2_with fail
        refine (wakes4_any _).mono ?_
        rintro e w1 ⟨rfl, x1⟩
        have E1 : Ext w w1 := FX.out.trans x1
        go_wp2_with fail
        go_ret
        exact ⟨rfl, E1⟩
    · have hk' : k = len := by omega
      subst hk'
      go_wp2_with fail
      refine (wakes4_any _).mono ?_
      rintro e w1 ⟨rfl, x1⟩
      have E1 : Ext w w1 := FX.out.trans x1
      go_wp2_with fail
      go_ret
      exact ⟨rfl, E1⟩
set_option maxRecDepth 20000 in
set_option maxHeartbeats 4000000 in
theorem quats_none (a : Option Addr) (cap : Nat) (w : World) :
    Calls Tryz.prog 4 #[.slice a 0 cap] w fun e w' => e = .returned (.bool true) ∧ Ext w w' := by
  go_enter Tryz.func4, Tryz.ntmps4
  go_wp2_with fail
  go_loopw [3] (fun i wr => i = .int .i64 0 ∧ Hid (Ext w wr)) (fun _ _ => 0)
  case atStart => exact ⟨rfl, Ext.refl _⟩
  case round =>
    obtain ⟨rfl, FX⟩ := hrel
    go_wp2_with fail
    refine (wakes4_any _).mono ?_
    rintro e w1 ⟨rfl, x1⟩
    have E1 : Ext w w1 := FX.out.trans x1
    go_wp2_with fail
    go_ret
    exact ⟨rfl, E1⟩
end Go.Proofs.YtfmalpnlencmbaaGreat
