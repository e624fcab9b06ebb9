/- FuseExact: its walk. -/
import Derived.Test.YtoeecldhbabmbaaGreatMg47
import Derived.Deep.Cut
import Derived.Deep.DeepCutAuto
open Go.Value renaming int → J, agg → zG
open Go.IntKind renaming i64 → zq
open Go.Ending renaming returned → zR
open Go.Proofs.Tryz renaming prog → zP
namespace Go.Proofs.YtoeecldhbabmbaaGreat
open Go.RowKit Go.Shelf
set_option maxRecDepth 20000 in
set_option maxHeartbeats 40000000 in
theorem fuses_any (b off len cap : Nat) (Z : Nat → Nat → Int) (w : World) (hl : len ≤ maxLen) (hc : NL 8 w b off len Z) :
    Calls zP 3 #[.slice (some ⟨b, off, none⟩) len cap] w fun e w' => e = zR (.bool true) ∧ Ext w w' := by
  have hl' : len ≤ 9223372036854775807 := by unfold maxLen at hl; omega
  clear hl
  go_enter Tryz.func3, Tryz.ntmps3
  go_wp2_with fail
  go_loopw [3] (fun i wr => ∃ k : Nat, k ≤ len ∧ i = J zq k ∧ Hid (Ext w wr)) (fun i _ => len - (intOf i).toNat)
  case atStart => exact ⟨0, Nat.zero_le _, rfl, Ext.refl _⟩
  case round =>
    obtain ⟨k, hk, rfl, FX⟩ := hrel
    by_cases hlt : k < len
    · by_cases h5 : k < 6
      · skip
        obtain ⟨c0, n0a, n0b⟩ := (hc.ext FX.out) k hlt 0 (by omega)
        obtain ⟨c1, n1a, n1b⟩ := (hc.ext FX.out) k hlt 1 (by omega)
        obtain ⟨c2, n2a, n2b⟩ := (hc.ext FX.out) k hlt 2 (by omega)
        obtain ⟨c3, n3a, n3b⟩ := (hc.ext FX.out) k hlt 3 (by omega)
        obtain ⟨c4, n4a, n4b⟩ := (hc.ext FX.out) k hlt 4 (by omega)
        obtain ⟨c5, n5a, n5b⟩ := (hc.ext FX.out) k hlt 5 (by omega)
        obtain ⟨c6, n6a, n6b⟩ := (hc.ext FX.out) k hlt 6 (by omega)
        obtain ⟨c7, n7a, n7b⟩ := (hc.ext FX.out) k hlt 7 (by omega)
        rw [Nat.add_zero] at c0
        have hlt' : (k : Int) < (len : Int) := by omega
        clear hc
        generalize Z k = z at *
        obtain ⟨bA, bB, bT, o1, o2, o3, es, ep, en, S0, S1, S2, S3, P0, P1, P2, P3, N0, N1, N2, N3, MA, DA, MB, DB, ET, DT, CK, PS, IS, PP, IP, PN, IN, R3, R2⟩ := fex_told z
        clear n0a n0b n1a n1b n2a n2b n3a n3b n4a n4b n5a n5b n6a n6b n7a n7b
        have MA : Hid ((∀ w, Calls zP 4 #[zG #[J zq (z 0), J zq (z 1), J zq (z 2), J zq (z 3)]] w fun e w' => e = zR (.bool bA) ∧ Ext w w')) := MA
        have DA : Hid ((bA = true ∧ o1 = 0 ∨ bA = false ∧ o1 = 1)) := DA
        have MB : Hid ((∀ w, Calls zP 5 #[zG #[J zq (z 4), J zq (z 5), J zq (z 6)]] w fun e w' => e = zR (.bool bB) ∧ Ext w w')) := MB
        have DB : Hid ((bB = true ∧ o2 = o1 ∨ bB = false ∧ o2 = 1)) := DB
        have ET : Hid ((bT = false ∧ 0 ≤ z 7 ∧ z 7 ≤ 1000 ∨ bT = true ∧ z 7 < 0 ∨ bT = true ∧ 1000 < z 7)) := ET
        have DT : Hid ((bT = false ∧ o3 = o2 ∨ bT = true ∧ o3 = 1)) := DT
        have CK : Hid ((∀ w, Calls zP 11 #[zG #[J zq (z 0), J zq (z 1), J zq (z 2), J zq (z 3)]] w fun e w' => e = zR (J zq o1) ∧ Ext w w')) := CK
        have PS : Hid ((∀ w, Calls zP 9 #[zG #[J zq (z 0), J zq (z 1), J zq (z 2), J zq (z 3)], zG #[J zq (z 4), J zq (z 5), J zq (z 6)], J zq (z 7)] w fun e w' => e = zR (.tuple #[zG #[J zq S0, J zq S1, J zq S2, J zq S3], J zq es]) ∧ Ext w w')) := PS
        have IS : Hid ((∀ w, Calls zP 12 #[zG #[J zq S0, J zq S1, J zq S2, J zq S3], J zq es, zG #[J zq S0, J zq S1, J zq S2, J zq S3], J zq es] w fun e w' => e = zR (.bool true) ∧ Ext w w')) := IS
        have PP : Hid ((∀ w, Calls zP 13 #[zG #[J zq (z 0), J zq (z 1), J zq (z 2), J zq (z 3)], zG #[J zq (z 4), J zq (z 5), J zq (z 6)]] w fun e w' => e = zR (.tuple #[zG #[J zq P0, J zq P1, J zq P2, J zq P3], J zq ep]) ∧ Ext w w')) := PP
        have IP : Hid ((∀ w, Calls zP 12 #[zG #[J zq P0, J zq P1, J zq P2, J zq P3], J zq ep, zG #[J zq P0, J zq P1, J zq P2, J zq P3], J zq ep] w fun e w' => e = zR (.bool true) ∧ Ext w w')) := IP
        have PN : Hid ((∀ w, Calls zP 14 #[zG #[J zq (z 0), J zq (z 1), J zq (z 2), J zq (z 3)], zG #[J zq (z 4), J zq (z 5), J zq (z 6)]] w fun e w' => e = zR (.tuple #[zG #[J zq N0, J zq N1, J zq N2, J zq N3], J zq en]) ∧ Ext w w')) := PN
        have IN : Hid ((∀ w, Calls zP 12 #[zG #[J zq N0, J zq N1, J zq N2, J zq N3], J zq en, zG #[J zq N0, J zq N1, J zq N2, J zq N3], J zq en] w fun e w' => e = zR (.bool true) ∧ Ext w w')) := IN
        have R3 : Hid ((o3 = 0 ∧ (∀ w, Calls zP 6 #[zG #[J zq (z 0), J zq (z 1), J zq (z 2), J zq (z 3)], zG #[J zq (z 4), J zq (z 5), J zq (z 6)], J zq (z 7)] w fun e w' => e = zR (.tuple #[zG #[J zq S0, J zq S1, J zq S2, J zq S3], J zq es]) ∧ Ext w w') ∨ o3 = 1 ∧ (S0 = 0 ∧ S1 = 0 ∧ S2 = 0 ∧ S3 = 0 ∧ es = 1))) := R3
        have R2 : Hid ((o2 = 0 ∧ (∀ w, Calls zP 7 #[zG #[J zq (z 0), J zq (z 1), J zq (z 2), J zq (z 3)], zG #[J zq (z 4), J zq (z 5), J zq (z 6)]] w fun e w' => e = zR (.tuple #[zG #[J zq P0, J zq P1, J zq P2, J zq P3], J zq ep]) ∧ Ext w w') ∧ (∀ w, Calls zP 8 #[zG #[J zq (z 0), J zq (z 1), J zq (z 2), J zq (z 3)], zG #[J zq (z 4), J zq (z 5), J zq (z 6)]] w fun e w' => e = zR (.tuple #[zG #[J zq N0, J zq N1, J zq N2, J zq N3], J zq en]) ∧ Ext w w') ∨ o2 = 1 ∧ (P0 = 0 ∧ P1 = 0 ∧ P2 = 0 ∧ P3 = 0 ∧ ep = 1) ∧ (N0 = 0 ∧ N1 = 0 ∧ N2 = 0 ∧ N3 = 0 ∧ en = 1))) := R2
        go_upto_region 5 with fail
        clear c0 c1 c2 c3 c4 c5 c6 c7
        have Lp := exz FX
        have Fp : Hid (HV (wr.alloc (.cells #[J zq (z 0), J zq (z 1), J zq (z 2), J zq (z 3), J zq (z 4), J zq (z 5), J zq (z 6), J zq (z 7)] 30)) wr.heap.size [J zq (z 0), J zq (z 1), J zq (z 2), J zq (z 3), J zq (z 4), J zq (z 5), J zq (z 6), J zq (z 7)]) := hv_at rfl
        have FX := exl FX (.cells #[J zq (z 0), J zq (z 1), J zq (z 2), J zq (z 3), J zq (z 4), J zq (z 5), J zq (z 6), J zq (z 7)] 30)
        generalize (wr.alloc (.cells #[J zq (z 0), J zq (z 1), J zq (z 2), J zq (z 3), J zq (z 4), J zq (z 5), J zq (z 6), J zq (z 7)] 30)) = wx1 at *
        generalize wr.heap.size = np at *
        have qp0 := Fp.out.c 0 rfl
        have qp1 := Fp.out.c 1 rfl
        have qp2 := Fp.out.c 2 rfl
        have qp3 := Fp.out.c 3 rfl
        go_upto_if 32 with (go_at_call 4; refine (MA.out _).mono ?_; rintro e wm32 ⟨rfl, xm⟩)
        have Fp := hvx Fp xm
        have FX := exx FX xm
        clear xm qp0 qp1 qp2 qp3 MA
        go_cut [5] from 15 to 135 (fun v5 wx => v5 = J zq o1 ∧ Hid (Ext wm32 wx))
        case first =>
          as_aux_lemma =>
            clear MB DB ET DT CK PS IS PP IP PN IN R3 R2
            rcases DA.out with ⟨rfl, rfl⟩ | ⟨rfl, rfl⟩
            · clear DA
              go_wp2_with fail
              go_meet
              exact ⟨rfl, Ext.refl _⟩
            · clear DA
              go_wp2_with fail
              go_meet
              exact ⟨rfl, Ext.refl _⟩
        case rest =>
          as_aux_lemma =>
            obtain ⟨rfl, hx⟩ := hcut
            have hx := hx.out
            have Fp := hvx Fp hx
            have FX := exx FX hx
            clear hx DA
            generalize wc = wx2 at *
            have qp4 := Fp.out.c 4 rfl
            have qp5 := Fp.out.c 5 rfl
            have qp6 := Fp.out.c 6 rfl
            go_upto_if 37 with (go_at_call 5; refine (MB.out _).mono ?_; rintro e wm37 ⟨rfl, xm⟩)
            have Fp := hvx Fp xm
            have FX := exx FX xm
            clear xm qp4 qp5 qp6 MB
            go_cut [6] from 15 to 135 (fun v6 wx => v6 = J zq o2 ∧ Hid (Ext wm37 wx))
            case first =>
              as_aux_lemma =>
                clear ET DT CK PS IS PP IP PN IN R3 R2
                rcases DB.out with ⟨rfl, rfl⟩ | ⟨rfl, rfl⟩
                · clear DB
                  go_wp2_with fail
                  go_meet
                  exact ⟨rfl, Ext.refl _⟩
                · clear DB
                  go_wp2_with fail
                  go_meet
                  exact ⟨rfl, Ext.refl _⟩
            case rest =>
              as_aux_lemma =>
                obtain ⟨rfl, hx⟩ := hcut
                have hx := hx.out
                have Fp := hvx Fp hx
                have FX := exx FX hx
                clear hx DB
                generalize wc = wx3 at *
                go_upto_region 12 with fail
                go_cut [48] from 15 to 135 (fun v48 wx => v48 = .bool bT ∧ Hid (Ext wx3 wx))
                case first =>
                  as_aux_lemma =>
                    clear DT CK PS IS PP IP PN IN R3 R2
                    have qp7 := Fp.out.c 7 rfl
                    rcases ET.out with ⟨rfl, h1, h2⟩ | ⟨rfl, h1⟩ | ⟨rfl, h1⟩
                    · clear ET
                      have h3 : decide (z 7 < 0) = false := decide_eq_false (by omega)
                      have h4 : decide (1000 < z 7) = false := decide_eq_false (by omega)
                      clear h1 h2
                      go_wp2_with fail
                      go_meet
                      exact ⟨rfl, Ext.refl _⟩
                    · clear ET
                      have h3 : decide (z 7 < 0) = true := decide_eq_true h1
                      clear h1
                      go_wp2_with fail
                      go_meet
                      exact ⟨rfl, Ext.refl _⟩
                    · clear ET
                      have h3 : decide (z 7 < 0) = false := decide_eq_false (by omega)
                      have h4 : decide (1000 < z 7) = true := decide_eq_true h1
                      clear h1
                      go_wp2_with fail
                      go_meet
                      exact ⟨rfl, Ext.refl _⟩
                case rest =>
                  as_aux_lemma =>
                    obtain ⟨rfl, hx⟩ := hcut
                    have hx := hx.out
                    have Fp := hvx Fp hx
                    have FX := exx FX hx
                    clear hx ET
                    generalize wc = wx4 at *
                    go_upto_if 48 with fail
                    go_cut [7] from 15 to 135 (fun v7 wx => v7 = J zq o3 ∧ Hid (Ext wx4 wx))
                    case first =>
                      as_aux_lemma =>
                        clear CK PS IS PP IP PN IN R3 R2
                        rcases DT.out with ⟨rfl, rfl⟩ | ⟨rfl, rfl⟩
                        · clear DT
                          go_wp2_with fail
                          go_meet
                          exact ⟨rfl, Ext.refl _⟩
                        · clear DT
                          go_wp2_with fail
                          go_meet
                          exact ⟨rfl, Ext.refl _⟩
                    case rest =>
                      as_aux_lemma =>
                        obtain ⟨rfl, hx⟩ := hcut
                        have hx := hx.out
                        have Fp := hvx Fp hx
                        have FX := exx FX hx
                        clear hx DT
                        generalize wc = wx5 at *
                        go_upto_region 14 with fail
                        go_cut [10, 11, 12] from 15 to 135 (fun v10 v11 v12 wx => ∃ n10 n11 n12 : Nat, v10 = .pointer (some ⟨n10, 0, none⟩) ∧ v11 = .pointer (some ⟨n11, 0, none⟩) ∧ v12 = .pointer (some ⟨n12, 0, none⟩) ∧ Hid (wx5.heap.size ≤ n10 ∧ n10 < n11 ∧ n11 < n12) ∧ Hid (HV wx n10 [J zq 0, J zq 0, J zq 0, J zq 0]) ∧ Hid (HV wx n11 [J zq 0, J zq 0, J zq 0, J zq 0]) ∧ Hid (HV wx n12 [J zq 0, J zq 0, J zq 0, J zq 0]) ∧ Hid (Ext wx5 wx))
                        case first =>
                          as_aux_lemma =>
                            clear CK PS IS PP IP PN IN R3 R2
                            go_wp2_with fail
                            go_meet
                            exact ⟨wx5.heap.size, wx5.heap.size + 1, wx5.heap.size + 2, rfl, (by first | with_reducible rfl | simp [go_sem]), (by first | with_reducible rfl | simp [go_sem]), (by show _ ∧ _; omega), (HV.alloc (HV.alloc (hv_at rfl) _) _), (HV.alloc (hv_at (by simp [go_sem])) _), (hv_at (by simp [go_sem])), ((((Ext.refl _).alloc _).alloc _).alloc _)⟩
                        case rest =>
                          as_aux_lemma =>
                            obtain ⟨n10, n11, n12, rfl, rfl, rfl, hord, FSz, FP, FN, hx⟩ := hcut
                            have hx := hx.out
                            obtain ⟨l10, l11, l12⟩ := hord.out
                            clear hord
                            have ltpS : np < n10 := Nat.lt_of_lt_of_le Fp.out.1 l10
                            have LS : Hid (w.heap.size ≤ n10) := Nat.le_trans FX.out.size l10
                            have LP : Hid (w.heap.size ≤ n11) := Nat.le_trans LS.out (Nat.le_of_lt l11)
                            have LN : Hid (w.heap.size ≤ n12) := Nat.le_trans LP.out (Nat.le_of_lt l12)
                            clear l10
                            have Fp := hvx Fp hx
                            have FX := exx FX hx
                            clear hx
                            generalize wc = wx6 at *
                            go_upto_if 50 with fail
                            go_cut [7] from 15 to 135 (fun v7 wx => v7 = J zq es ∧ Hid (HV wx np [J zq (z 0), J zq (z 1), J zq (z 2), J zq (z 3), J zq (z 4), J zq (z 5), J zq (z 6), J zq (z 7)]) ∧ Hid (HV wx n10 [J zq S0, J zq S1, J zq S2, J zq S3]) ∧ Hid (HV wx n11 [J zq 0, J zq 0, J zq 0, J zq 0]) ∧ Hid (HV wx n12 [J zq 0, J zq 0, J zq 0, J zq 0]) ∧ Hid (Ext w wx))
                            case first =>
                              as_aux_lemma =>
                                clear CK PS IS PP IP PN IN R2
                                rcases R3.out with ⟨rfl, HS⟩ | ⟨rfl, ⟨rfl, rfl, rfl, rfl, rfl⟩⟩
                                · clear R3
                                  have HS : Hid (∀ w, Calls zP 6 #[zG #[J zq (z 0), J zq (z 1), J zq (z 2), J zq (z 3)], zG #[J zq (z 4), J zq (z 5), J zq (z 6)], J zq (z 7)] w fun e w' => e = zR (.tuple #[zG #[J zq S0, J zq S1, J zq S2, J zq S3], J zq es]) ∧ Ext w w') := HS
                                  have qp0 := Fp.out.c 0 rfl
                                  have qp1 := Fp.out.c 1 rfl
                                  have qp2 := Fp.out.c 2 rfl
                                  have qp3 := Fp.out.c 3 rfl
                                  have qp4 := Fp.out.c 4 rfl
                                  have qp5 := Fp.out.c 5 rfl
                                  have qp6 := Fp.out.c 6 rfl
                                  have qp7 := Fp.out.c 7 rfl
                                  have qS0 := FSz.out.c 0 rfl
                                  have zS0 := FSz.out.f 0 rfl
                                  have qS1 := FSz.out.c 1 rfl
                                  have zS1 := FSz.out.f 1 rfl
                                  have qS2 := FSz.out.c 2 rfl
                                  have zS2 := FSz.out.f 2 rfl
                                  have qS3 := FSz.out.c 3 rfl
                                  have zS3 := FSz.out.f 3 rfl
                                  go_wp2_with (go_at_call 6; refine (HS.out _).mono ?_; rintro e wk0 ⟨rfl, xk0⟩; have kS0 : wk0.cell? ⟨n10, 0, none⟩ = some (J zq 0) := (FSz.out.ext xk0).c 0 rfl; have zS0 : wk0.frozen? ⟨n10, 0, none⟩ = false := (FSz.out.ext xk0).f 0 rfl; have kS1 : wk0.cell? ⟨n10, 1, none⟩ = some (J zq 0) := (FSz.out.ext xk0).c 1 rfl; have zS1 : wk0.frozen? ⟨n10, 1, none⟩ = false := (FSz.out.ext xk0).f 1 rfl; have kS2 : wk0.cell? ⟨n10, 2, none⟩ = some (J zq 0) := (FSz.out.ext xk0).c 2 rfl; have zS2 : wk0.frozen? ⟨n10, 2, none⟩ = false := (FSz.out.ext xk0).f 2 rfl; have kS3 : wk0.cell? ⟨n10, 3, none⟩ = some (J zq 0) := (FSz.out.ext xk0).c 3 rfl; have zS3 : wk0.frozen? ⟨n10, 3, none⟩ = false := (FSz.out.ext xk0).f 3 rfl)
                                  have Fp := hvx Fp xk0
                                  have FSz := hvx FSz xk0
                                  have FP := hvx FP xk0
                                  have FN := hvx FN xk0
                                  have FX := exx FX xk0
                                  go_meet
                                  exact ⟨rfl, ((((Fp.out.far (by omega)).far (by omega)).far (by omega)).far (by omega)), ((((FSz.out.set 0 (J zq S0)).set 1 (J zq S1)).set 2 (J zq S2)).set 3 (J zq S3)), ((((FP.out.far (by omega)).far (by omega)).far (by omega)).far (by omega)), ((((FN.out.far (by omega)).far (by omega)).far (by omega)).far (by omega)), ((((FX.out.set (p := ⟨n10, 0, none⟩) LS.out (J zq S0)).set (p := ⟨n10, 1, none⟩) LS.out (J zq S1)).set (p := ⟨n10, 2, none⟩) LS.out (J zq S2)).set (p := ⟨n10, 3, none⟩) LS.out (J zq S3))⟩
                                · clear R3
                                  go_wp2_with fail
                                  go_meet
                                  exact ⟨rfl, Fp, FSz, FP, FN, FX⟩
                            case rest =>
                              as_aux_lemma =>
                                clear Fp FSz FP FN FX R3
                                obtain ⟨rfl, Fp, FSz, FP, FN, FX⟩ := hcut
                                generalize wc = wx7 at *
                                go_upto_if 62 with fail
                                go_cut [8, 9] from 15 to 135 (fun v8 v9 wx => v8 = J zq ep ∧ v9 = J zq en ∧ Hid (HV wx np [J zq (z 0), J zq (z 1), J zq (z 2), J zq (z 3), J zq (z 4), J zq (z 5), J zq (z 6), J zq (z 7)]) ∧ Hid (HV wx n10 [J zq S0, J zq S1, J zq S2, J zq S3]) ∧ Hid (HV wx n11 [J zq P0, J zq P1, J zq P2, J zq P3]) ∧ Hid (HV wx n12 [J zq N0, J zq N1, J zq N2, J zq N3]) ∧ Hid (Ext w wx))
                                case first =>
                                  as_aux_lemma =>
                                    clear CK PS IS PP IP PN IN
                                    rcases R2.out with ⟨rfl, HP, HN⟩ | ⟨rfl, ⟨rfl, rfl, rfl, rfl, rfl⟩, ⟨rfl, rfl, rfl, rfl, rfl⟩⟩
                                    · clear R2
                                      have HP : Hid (∀ w, Calls zP 7 #[zG #[J zq (z 0), J zq (z 1), J zq (z 2), J zq (z 3)], zG #[J zq (z 4), J zq (z 5), J zq (z 6)]] w fun e w' => e = zR (.tuple #[zG #[J zq P0, J zq P1, J zq P2, J zq P3], J zq ep]) ∧ Ext w w') := HP
                                      have HN : Hid (∀ w, Calls zP 8 #[zG #[J zq (z 0), J zq (z 1), J zq (z 2), J zq (z 3)], zG #[J zq (z 4), J zq (z 5), J zq (z 6)]] w fun e w' => e = zR (.tuple #[zG #[J zq N0, J zq N1, J zq N2, J zq N3], J zq en]) ∧ Ext w w') := HN
                                      have qp0 := Fp.out.c 0 rfl
                                      have qp1 := Fp.out.c 1 rfl
                                      have qp2 := Fp.out.c 2 rfl
                                      have qp3 := Fp.out.c 3 rfl
                                      have qp4 := Fp.out.c 4 rfl
                                      have qp5 := Fp.out.c 5 rfl
                                      have qp6 := Fp.out.c 6 rfl
                                      have qP0 := FP.out.c 0 rfl
                                      have zP0 := FP.out.f 0 rfl
                                      have qP1 := FP.out.c 1 rfl
                                      have zP1 := FP.out.f 1 rfl
                                      have qP2 := FP.out.c 2 rfl
                                      have zP2 := FP.out.f 2 rfl
                                      have qP3 := FP.out.c 3 rfl
                                      have zP3 := FP.out.f 3 rfl
                                      go_upto_region 19 with (first | (go_at_call 7; refine (HP.out _).mono ?_; rintro e wk0 ⟨rfl, xk0⟩; have kP0 : wk0.cell? ⟨n11, 0, none⟩ = some (J zq 0) := (FP.out.ext xk0).c 0 rfl; have zP0 : wk0.frozen? ⟨n11, 0, none⟩ = false := (FP.out.ext xk0).f 0 rfl; have kP1 : wk0.cell? ⟨n11, 1, none⟩ = some (J zq 0) := (FP.out.ext xk0).c 1 rfl; have zP1 : wk0.frozen? ⟨n11, 1, none⟩ = false := (FP.out.ext xk0).f 1 rfl; have kP2 : wk0.cell? ⟨n11, 2, none⟩ = some (J zq 0) := (FP.out.ext xk0).c 2 rfl; have zP2 : wk0.frozen? ⟨n11, 2, none⟩ = false := (FP.out.ext xk0).f 2 rfl; have kP3 : wk0.cell? ⟨n11, 3, none⟩ = some (J zq 0) := (FP.out.ext xk0).c 3 rfl; have zP3 : wk0.frozen? ⟨n11, 3, none⟩ = false := (FP.out.ext xk0).f 3 rfl))
                                      have Fp := hvx Fp xk0
                                      have FSz := hvx FSz xk0
                                      have FP := hvx FP xk0
                                      have FN := hvx FN xk0
                                      have FX := exx FX xk0
                                      clear qp0 qp1 qp2 qp3 qp4 qp5 qp6 qP0 qP1 qP2 qP3 kP0 kP1 kP2 kP3 zP0 zP1 zP2 zP3 xk0 HP
                                      have Fp : Hid (HV ((((wk0.setCell ⟨n11, 0, none⟩ (J zq P0)).setCell ⟨n11, 1, none⟩ (J zq P1)).setCell ⟨n11, 2, none⟩ (J zq P2)).setCell ⟨n11, 3, none⟩ (J zq P3)) np [J zq (z 0), J zq (z 1), J zq (z 2), J zq (z 3), J zq (z 4), J zq (z 5), J zq (z 6), J zq (z 7)]) := ((((Fp.out.far (by omega)).far (by omega)).far (by omega)).far (by omega))
                                      have FSz : Hid (HV ((((wk0.setCell ⟨n11, 0, none⟩ (J zq P0)).setCell ⟨n11, 1, none⟩ (J zq P1)).setCell ⟨n11, 2, none⟩ (J zq P2)).setCell ⟨n11, 3, none⟩ (J zq P3)) n10 [J zq S0, J zq S1, J zq S2, J zq S3]) := ((((FSz.out.far (by omega)).far (by omega)).far (by omega)).far (by omega))
                                      have FN : Hid (HV ((((wk0.setCell ⟨n11, 0, none⟩ (J zq P0)).setCell ⟨n11, 1, none⟩ (J zq P1)).setCell ⟨n11, 2, none⟩ (J zq P2)).setCell ⟨n11, 3, none⟩ (J zq P3)) n12 [J zq 0, J zq 0, J zq 0, J zq 0]) := ((((FN.out.far (by omega)).far (by omega)).far (by omega)).far (by omega))
                                      have FP : Hid (HV ((((wk0.setCell ⟨n11, 0, none⟩ (J zq P0)).setCell ⟨n11, 1, none⟩ (J zq P1)).setCell ⟨n11, 2, none⟩ (J zq P2)).setCell ⟨n11, 3, none⟩ (J zq P3)) n11 [J zq P0, J zq P1, J zq P2, J zq P3]) := ((((FP.out.set 0 (J zq P0)).set 1 (J zq P1)).set 2 (J zq P2)).set 3 (J zq P3))
                                      have FX : Hid (Ext w ((((wk0.setCell ⟨n11, 0, none⟩ (J zq P0)).setCell ⟨n11, 1, none⟩ (J zq P1)).setCell ⟨n11, 2, none⟩ (J zq P2)).setCell ⟨n11, 3, none⟩ (J zq P3))) := ((((FX.out.set (p := ⟨n11, 0, none⟩) LP.out (J zq P0)).set (p := ⟨n11, 1, none⟩) LP.out (J zq P1)).set (p := ⟨n11, 2, none⟩) LP.out (J zq P2)).set (p := ⟨n11, 3, none⟩) LP.out (J zq P3))
                                      generalize ((((wk0.setCell ⟨n11, 0, none⟩ (J zq P0)).setCell ⟨n11, 1, none⟩ (J zq P1)).setCell ⟨n11, 2, none⟩ (J zq P2)).setCell ⟨n11, 3, none⟩ (J zq P3)) = wx38 at *
                                      have qp0 := Fp.out.c 0 rfl
                                      have qp1 := Fp.out.c 1 rfl
                                      have qp2 := Fp.out.c 2 rfl
                                      have qp3 := Fp.out.c 3 rfl
                                      have qp4 := Fp.out.c 4 rfl
                                      have qp5 := Fp.out.c 5 rfl
                                      have qp6 := Fp.out.c 6 rfl
                                      have qN0 := FN.out.c 0 rfl
                                      have zN0 := FN.out.f 0 rfl
                                      have qN1 := FN.out.c 1 rfl
                                      have zN1 := FN.out.f 1 rfl
                                      have qN2 := FN.out.c 2 rfl
                                      have zN2 := FN.out.f 2 rfl
                                      have qN3 := FN.out.c 3 rfl
                                      have zN3 := FN.out.f 3 rfl
                                      go_wp2_with (go_at_call 8; refine (HN.out _).mono ?_; rintro e wk1 ⟨rfl, xk1⟩; have kN0 : wk1.cell? ⟨n12, 0, none⟩ = some (J zq 0) := (FN.out.ext xk1).c 0 rfl; have zN0 : wk1.frozen? ⟨n12, 0, none⟩ = false := (FN.out.ext xk1).f 0 rfl; have kN1 : wk1.cell? ⟨n12, 1, none⟩ = some (J zq 0) := (FN.out.ext xk1).c 1 rfl; have zN1 : wk1.frozen? ⟨n12, 1, none⟩ = false := (FN.out.ext xk1).f 1 rfl; have kN2 : wk1.cell? ⟨n12, 2, none⟩ = some (J zq 0) := (FN.out.ext xk1).c 2 rfl; have zN2 : wk1.frozen? ⟨n12, 2, none⟩ = false := (FN.out.ext xk1).f 2 rfl; have kN3 : wk1.cell? ⟨n12, 3, none⟩ = some (J zq 0) := (FN.out.ext xk1).c 3 rfl; have zN3 : wk1.frozen? ⟨n12, 3, none⟩ = false := (FN.out.ext xk1).f 3 rfl)
                                      have Fp := hvx Fp xk1
                                      have FSz := hvx FSz xk1
                                      have FP := hvx FP xk1
                                      have FN := hvx FN xk1
                                      have FX := exx FX xk1
                                      go_meet
                                      exact ⟨rfl, rfl, ((((Fp.out.far (by omega)).far (by omega)).far (by omega)).far (by omega)), ((((FSz.out.far (by omega)).far (by omega)).far (by omega)).far (by omega)), ((((FP.out.far (by omega)).far (by omega)).far (by omega)).far (by omega)), ((((FN.out.set 0 (J zq N0)).set 1 (J zq N1)).set 2 (J zq N2)).set 3 (J zq N3)), ((((FX.out.set (p := ⟨n12, 0, none⟩) LN.out (J zq N0)).set (p := ⟨n12, 1, none⟩) LN.out (J zq N1)).set (p := ⟨n12, 2, none⟩) LN.out (J zq N2)).set (p := ⟨n12, 3, none⟩) LN.out (J zq N3))⟩
                                    · clear R2
                                      go_wp2_with fail
                                      go_meet
                                      exact ⟨rfl, rfl, Fp, FSz, FP, FN, FX⟩
                                case rest =>
                                  as_aux_lemma =>
                                    clear Fp FSz FP FN FX R2
                                    obtain ⟨rfl, rfl, Fp, FSz, FP, FN, FX⟩ := hcut
                                    generalize wc = wx8 at *
                                    as_aux_lemma =>
                                      have qp0 := Fp.out.c 0 rfl
                                      have qp1 := Fp.out.c 1 rfl
                                      have qp2 := Fp.out.c 2 rfl
                                      have qp3 := Fp.out.c 3 rfl
                                      have qp4 := Fp.out.c 4 rfl
                                      have qp5 := Fp.out.c 5 rfl
                                      have qp6 := Fp.out.c 6 rfl
                                      have qp7 := Fp.out.c 7 rfl
                                      go_upto_region 21 with (first | (go_at_call 9; refine (PS.out _).mono ?_; rintro e wa ⟨rfl, xa⟩))
                                      have Fp := hvx Fp xa
                                      have FSz := hvx FSz xa
                                      have FP := hvx FP xa
                                      have FN := hvx FN xa
                                      have FX := exx FX xa
                                      clear qp0 qp1 qp2 qp3 qp4 qp5 qp6 qp7 xa PS
                                      have ltpv := Fp.out.1
                                      have ltSv := FSz.out.1
                                      have ltPv := FP.out.1
                                      have ltNv := FN.out.1
                                      have Lv := exz FX
                                      have Fp := hvl Fp (.cells #[J zq S0, J zq S1, J zq S2, J zq S3] 26)
                                      have FSz := hvl FSz (.cells #[J zq S0, J zq S1, J zq S2, J zq S3] 26)
                                      have FP := hvl FP (.cells #[J zq S0, J zq S1, J zq S2, J zq S3] 26)
                                      have FN := hvl FN (.cells #[J zq S0, J zq S1, J zq S2, J zq S3] 26)
                                      have Fv : Hid (HV (wa.alloc (.cells #[J zq S0, J zq S1, J zq S2, J zq S3] 26)) wa.heap.size [J zq S0, J zq S1, J zq S2, J zq S3]) := hv_at rfl
                                      have FX := exl FX (.cells #[J zq S0, J zq S1, J zq S2, J zq S3] 26)
                                      generalize (wa.alloc (.cells #[J zq S0, J zq S1, J zq S2, J zq S3] 26)) = wx9 at *
                                      generalize wa.heap.size = nv at *
                                      have qp0 := Fp.out.c 0 rfl
                                      have qp1 := Fp.out.c 1 rfl
                                      have qp2 := Fp.out.c 2 rfl
                                      have qp3 := Fp.out.c 3 rfl
                                      have qv0 := Fv.out.c 0 rfl
                                      have qv1 := Fv.out.c 1 rfl
                                      have qv2 := Fv.out.c 2 rfl
                                      have qv3 := Fv.out.c 3 rfl
                                      have qS0 := FSz.out.c 0 rfl
                                      have qS1 := FSz.out.c 1 rfl
                                      have qS2 := FSz.out.c 2 rfl
                                      have qS3 := FSz.out.c 3 rfl
                                      go_upto_region 23 with (first | (go_at_call 10; refine (num15_any _ _).mono ?_; rintro e wx ⟨rfl, hwx⟩; have hwy := hwx.symm; clear hwx; subst hwy) | (go_at_call 11; refine (CK.out _).mono ?_; rintro e wb ⟨rfl, xb⟩; have kv0 : wb.cell? ⟨nv, 0, none⟩ = some (J zq S0) := (Fv.out.ext xb).c 0 rfl; have kv1 : wb.cell? ⟨nv, 1, none⟩ = some (J zq S1) := (Fv.out.ext xb).c 1 rfl; have kv2 : wb.cell? ⟨nv, 2, none⟩ = some (J zq S2) := (Fv.out.ext xb).c 2 rfl; have kv3 : wb.cell? ⟨nv, 3, none⟩ = some (J zq S3) := (Fv.out.ext xb).c 3 rfl; have kS0 : wb.cell? ⟨n10, 0, none⟩ = some (J zq S0) := (FSz.out.ext xb).c 0 rfl; have kS1 : wb.cell? ⟨n10, 1, none⟩ = some (J zq S1) := (FSz.out.ext xb).c 1 rfl; have kS2 : wb.cell? ⟨n10, 2, none⟩ = some (J zq S2) := (FSz.out.ext xb).c 2 rfl; have kS3 : wb.cell? ⟨n10, 3, none⟩ = some (J zq S3) := (FSz.out.ext xb).c 3 rfl) | (go_at_call 12; refine (IS.out _).mono ?_; rintro e wd ⟨rfl, xd⟩; have xd : Ext wx9 wd := Ext.trans xb xd))
                                      have Fp := hvx Fp xd
                                      have FSz := hvx FSz xd
                                      have FP := hvx FP xd
                                      have FN := hvx FN xd
                                      have Fv := hvx Fv xd
                                      have FX := exx FX xd
                                      clear qp0 qp1 qp2 qp3 qv0 qv1 qv2 qv3 qS0 qS1 qS2 qS3 xd xb CK IS kv0 kv1 kv2 kv3 kS0 kS1 kS2 kS3
                                      have qp0 := Fp.out.c 0 rfl
                                      have qp1 := Fp.out.c 1 rfl
                                      have qp2 := Fp.out.c 2 rfl
                                      have qp3 := Fp.out.c 3 rfl
                                      have qp4 := Fp.out.c 4 rfl
                                      have qp5 := Fp.out.c 5 rfl
                                      have qp6 := Fp.out.c 6 rfl
                                      have qv0 := Fv.out.c 0 rfl
                                      have zv0 := Fv.out.f 0 rfl
                                      have qv1 := Fv.out.c 1 rfl
                                      have zv1 := Fv.out.f 1 rfl
                                      have qv2 := Fv.out.c 2 rfl
                                      have zv2 := Fv.out.f 2 rfl
                                      have qv3 := Fv.out.c 3 rfl
                                      have zv3 := Fv.out.f 3 rfl
                                      go_upto_region 24 with (first | (go_at_call 13; refine (PP.out _).mono ?_; rintro e wu1 ⟨rfl, xu1⟩; have kv0 : wu1.cell? ⟨nv, 0, none⟩ = some (J zq S0) := (Fv.out.ext xu1).c 0 rfl; have zv0 : wu1.frozen? ⟨nv, 0, none⟩ = false := (Fv.out.ext xu1).f 0 rfl; have kv1 : wu1.cell? ⟨nv, 1, none⟩ = some (J zq S1) := (Fv.out.ext xu1).c 1 rfl; have zv1 : wu1.frozen? ⟨nv, 1, none⟩ = false := (Fv.out.ext xu1).f 1 rfl; have kv2 : wu1.cell? ⟨nv, 2, none⟩ = some (J zq S2) := (Fv.out.ext xu1).c 2 rfl; have zv2 : wu1.frozen? ⟨nv, 2, none⟩ = false := (Fv.out.ext xu1).f 2 rfl; have kv3 : wu1.cell? ⟨nv, 3, none⟩ = some (J zq S3) := (Fv.out.ext xu1).c 3 rfl; have zv3 : wu1.frozen? ⟨nv, 3, none⟩ = false := (Fv.out.ext xu1).f 3 rfl))
                                      have Fp := hvx Fp xu1
                                      have FSz := hvx FSz xu1
                                      have FP := hvx FP xu1
                                      have FN := hvx FN xu1
                                      have Fv := hvx Fv xu1
                                      have FX := exx FX xu1
                                      clear qp0 qp1 qp2 qp3 qp4 qp5 qp6 qv0 qv1 qv2 qv3 kv0 kv1 kv2 kv3 zv0 zv1 zv2 zv3 xu1 PP
                                      have Fp : Hid (HV ((((wu1.setCell ⟨nv, 0, none⟩ (J zq P0)).setCell ⟨nv, 1, none⟩ (J zq P1)).setCell ⟨nv, 2, none⟩ (J zq P2)).setCell ⟨nv, 3, none⟩ (J zq P3)) np [J zq (z 0), J zq (z 1), J zq (z 2), J zq (z 3), J zq (z 4), J zq (z 5), J zq (z 6), J zq (z 7)]) := ((((Fp.out.far (by omega)).far (by omega)).far (by omega)).far (by omega))
                                      have FSz : Hid (HV ((((wu1.setCell ⟨nv, 0, none⟩ (J zq P0)).setCell ⟨nv, 1, none⟩ (J zq P1)).setCell ⟨nv, 2, none⟩ (J zq P2)).setCell ⟨nv, 3, none⟩ (J zq P3)) n10 [J zq S0, J zq S1, J zq S2, J zq S3]) := ((((FSz.out.far (by omega)).far (by omega)).far (by omega)).far (by omega))
                                      have FP : Hid (HV ((((wu1.setCell ⟨nv, 0, none⟩ (J zq P0)).setCell ⟨nv, 1, none⟩ (J zq P1)).setCell ⟨nv, 2, none⟩ (J zq P2)).setCell ⟨nv, 3, none⟩ (J zq P3)) n11 [J zq P0, J zq P1, J zq P2, J zq P3]) := ((((FP.out.far (by omega)).far (by omega)).far (by omega)).far (by omega))
                                      have FN : Hid (HV ((((wu1.setCell ⟨nv, 0, none⟩ (J zq P0)).setCell ⟨nv, 1, none⟩ (J zq P1)).setCell ⟨nv, 2, none⟩ (J zq P2)).setCell ⟨nv, 3, none⟩ (J zq P3)) n12 [J zq N0, J zq N1, J zq N2, J zq N3]) := ((((FN.out.far (by omega)).far (by omega)).far (by omega)).far (by omega))
                                      have Fv : Hid (HV ((((wu1.setCell ⟨nv, 0, none⟩ (J zq P0)).setCell ⟨nv, 1, none⟩ (J zq P1)).setCell ⟨nv, 2, none⟩ (J zq P2)).setCell ⟨nv, 3, none⟩ (J zq P3)) nv [J zq P0, J zq P1, J zq P2, J zq P3]) := ((((Fv.out.set 0 (J zq P0)).set 1 (J zq P1)).set 2 (J zq P2)).set 3 (J zq P3))
                                      have FX : Hid (Ext w ((((wu1.setCell ⟨nv, 0, none⟩ (J zq P0)).setCell ⟨nv, 1, none⟩ (J zq P1)).setCell ⟨nv, 2, none⟩ (J zq P2)).setCell ⟨nv, 3, none⟩ (J zq P3))) := ((((FX.out.set (p := ⟨nv, 0, none⟩) Lv.out (J zq P0)).set (p := ⟨nv, 1, none⟩) Lv.out (J zq P1)).set (p := ⟨nv, 2, none⟩) Lv.out (J zq P2)).set (p := ⟨nv, 3, none⟩) Lv.out (J zq P3))
                                      generalize ((((wu1.setCell ⟨nv, 0, none⟩ (J zq P0)).setCell ⟨nv, 1, none⟩ (J zq P1)).setCell ⟨nv, 2, none⟩ (J zq P2)).setCell ⟨nv, 3, none⟩ (J zq P3)) = wx10 at *
                                      have qv0 := Fv.out.c 0 rfl
                                      have qv1 := Fv.out.c 1 rfl
                                      have qv2 := Fv.out.c 2 rfl
                                      have qv3 := Fv.out.c 3 rfl
                                      have qP0 := FP.out.c 0 rfl
                                      have qP1 := FP.out.c 1 rfl
                                      have qP2 := FP.out.c 2 rfl
                                      have qP3 := FP.out.c 3 rfl
                                      go_upto_region 26 with (first | (go_at_call 12; refine (IP.out _).mono ?_; rintro e wu2 ⟨rfl, xu2⟩))
                                      have Fp := hvx Fp xu2
                                      have FSz := hvx FSz xu2
                                      have FP := hvx FP xu2
                                      have FN := hvx FN xu2
                                      have Fv := hvx Fv xu2
                                      have FX := exx FX xu2
                                      clear qv0 qv1 qv2 qv3 qP0 qP1 qP2 qP3 xu2 IP
                                      have qp0 := Fp.out.c 0 rfl
                                      have qp1 := Fp.out.c 1 rfl
                                      have qp2 := Fp.out.c 2 rfl
                                      have qp3 := Fp.out.c 3 rfl
                                      have qp4 := Fp.out.c 4 rfl
                                      have qp5 := Fp.out.c 5 rfl
                                      have qp6 := Fp.out.c 6 rfl
                                      have qv0 := Fv.out.c 0 rfl
                                      have zv0 := Fv.out.f 0 rfl
                                      have qv1 := Fv.out.c 1 rfl
                                      have zv1 := Fv.out.f 1 rfl
                                      have qv2 := Fv.out.c 2 rfl
                                      have zv2 := Fv.out.f 2 rfl
                                      have qv3 := Fv.out.c 3 rfl
                                      have zv3 := Fv.out.f 3 rfl
                                      go_upto_region 27 with (first | (go_at_call 14; refine (PN.out _).mono ?_; rintro e wn1 ⟨rfl, xn1⟩; have kv0 : wn1.cell? ⟨nv, 0, none⟩ = some (J zq P0) := (Fv.out.ext xn1).c 0 rfl; have zv0 : wn1.frozen? ⟨nv, 0, none⟩ = false := (Fv.out.ext xn1).f 0 rfl; have kv1 : wn1.cell? ⟨nv, 1, none⟩ = some (J zq P1) := (Fv.out.ext xn1).c 1 rfl; have zv1 : wn1.frozen? ⟨nv, 1, none⟩ = false := (Fv.out.ext xn1).f 1 rfl; have kv2 : wn1.cell? ⟨nv, 2, none⟩ = some (J zq P2) := (Fv.out.ext xn1).c 2 rfl; have zv2 : wn1.frozen? ⟨nv, 2, none⟩ = false := (Fv.out.ext xn1).f 2 rfl; have kv3 : wn1.cell? ⟨nv, 3, none⟩ = some (J zq P3) := (Fv.out.ext xn1).c 3 rfl; have zv3 : wn1.frozen? ⟨nv, 3, none⟩ = false := (Fv.out.ext xn1).f 3 rfl))
                                      have Fp := hvx Fp xn1
                                      have FSz := hvx FSz xn1
                                      have FP := hvx FP xn1
                                      have FN := hvx FN xn1
                                      have Fv := hvx Fv xn1
                                      have FX := exx FX xn1
                                      clear qp0 qp1 qp2 qp3 qp4 qp5 qp6 qv0 qv1 qv2 qv3 kv0 kv1 kv2 kv3 zv0 zv1 zv2 zv3 xn1 PN
                                      have Fp : Hid (HV ((((wn1.setCell ⟨nv, 0, none⟩ (J zq N0)).setCell ⟨nv, 1, none⟩ (J zq N1)).setCell ⟨nv, 2, none⟩ (J zq N2)).setCell ⟨nv, 3, none⟩ (J zq N3)) np [J zq (z 0), J zq (z 1), J zq (z 2), J zq (z 3), J zq (z 4), J zq (z 5), J zq (z 6), J zq (z 7)]) := ((((Fp.out.far (by omega)).far (by omega)).far (by omega)).far (by omega))
                                      have FSz : Hid (HV ((((wn1.setCell ⟨nv, 0, none⟩ (J zq N0)).setCell ⟨nv, 1, none⟩ (J zq N1)).setCell ⟨nv, 2, none⟩ (J zq N2)).setCell ⟨nv, 3, none⟩ (J zq N3)) n10 [J zq S0, J zq S1, J zq S2, J zq S3]) := ((((FSz.out.far (by omega)).far (by omega)).far (by omega)).far (by omega))
                                      have FP : Hid (HV ((((wn1.setCell ⟨nv, 0, none⟩ (J zq N0)).setCell ⟨nv, 1, none⟩ (J zq N1)).setCell ⟨nv, 2, none⟩ (J zq N2)).setCell ⟨nv, 3, none⟩ (J zq N3)) n11 [J zq P0, J zq P1, J zq P2, J zq P3]) := ((((FP.out.far (by omega)).far (by omega)).far (by omega)).far (by omega))
                                      have FN : Hid (HV ((((wn1.setCell ⟨nv, 0, none⟩ (J zq N0)).setCell ⟨nv, 1, none⟩ (J zq N1)).setCell ⟨nv, 2, none⟩ (J zq N2)).setCell ⟨nv, 3, none⟩ (J zq N3)) n12 [J zq N0, J zq N1, J zq N2, J zq N3]) := ((((FN.out.far (by omega)).far (by omega)).far (by omega)).far (by omega))
                                      have Fv : Hid (HV ((((wn1.setCell ⟨nv, 0, none⟩ (J zq N0)).setCell ⟨nv, 1, none⟩ (J zq N1)).setCell ⟨nv, 2, none⟩ (J zq N2)).setCell ⟨nv, 3, none⟩ (J zq N3)) nv [J zq N0, J zq N1, J zq N2, J zq N3]) := ((((Fv.out.set 0 (J zq N0)).set 1 (J zq N1)).set 2 (J zq N2)).set 3 (J zq N3))
                                      have FX : Hid (Ext w ((((wn1.setCell ⟨nv, 0, none⟩ (J zq N0)).setCell ⟨nv, 1, none⟩ (J zq N1)).setCell ⟨nv, 2, none⟩ (J zq N2)).setCell ⟨nv, 3, none⟩ (J zq N3))) := ((((FX.out.set (p := ⟨nv, 0, none⟩) Lv.out (J zq N0)).set (p := ⟨nv, 1, none⟩) Lv.out (J zq N1)).set (p := ⟨nv, 2, none⟩) Lv.out (J zq N2)).set (p := ⟨nv, 3, none⟩) Lv.out (J zq N3))
                                      generalize ((((wn1.setCell ⟨nv, 0, none⟩ (J zq N0)).setCell ⟨nv, 1, none⟩ (J zq N1)).setCell ⟨nv, 2, none⟩ (J zq N2)).setCell ⟨nv, 3, none⟩ (J zq N3)) = wx11 at *
                                      have he := eqF 1073741824 0 0 0 1073741824 0 0 0
                                      simp only [beq_self_eq_true, Bool.and_self] at he
                                      have qv0 := Fv.out.c 0 rfl
                                      have qv1 := Fv.out.c 1 rfl
                                      have qv2 := Fv.out.c 2 rfl
                                      have qv3 := Fv.out.c 3 rfl
                                      have qN0 := FN.out.c 0 rfl
                                      have qN1 := FN.out.c 1 rfl
                                      have qN2 := FN.out.c 2 rfl
                                      have qN3 := FN.out.c 3 rfl
                                      go_wp2_with (first | (go_at_call 12; refine (IN.out _).mono ?_; rintro e wn2 ⟨rfl, xn2⟩) | (go_at_call 15; refine (fresh_any _).mono ?_; rintro e wf1 ⟨rfl, xf1⟩) | (go_at_call 16; refine (rfresh_any _).mono ?_; rintro e wf2 ⟨rfl, xf2⟩))
                                      have xg : Ext wx11 wf2 := (xn2.trans xf1).trans xf2
                                      have Fp := hvx Fp xg
                                      have FSz := hvx FSz xg
                                      have FP := hvx FP xg
                                      have FN := hvx FN xg
                                      have Fv := hvx Fv xg
                                      have FX := exx FX xg
                                      go_roundw
                                      case rel => exact ⟨k + 1, by omega, by go_num, FX⟩
                                      case measure => simp [intOf]; omega
      · go_wp2_with fail
        refine (wakes15_any _).mono ?_
        rintro e w1 ⟨rfl, x1⟩
        have E1 : Ext w w1 := FX.out.trans x1
        go_wp2_with fail
        go_ret
        exact ⟨rfl, E1⟩
    · have hk' : k = len := by omega
      subst hk'
      go_wp2_with fail
      refine (wakes15_any _).mono ?_
      rintro e w1 ⟨rfl, x1⟩
      have E1 : Ext w w1 := FX.out.trans x1
      go_wp2_with fail
      go_ret
      exact ⟨rfl, E1⟩
set_option maxRecDepth 20000 in
set_option maxHeartbeats 4000000 in
theorem fuses_none (a : Option Addr) (cap : Nat) (w : World) :
    Calls zP 3 #[.slice a 0 cap] w fun e w' => e = zR (.bool true) ∧ Ext w w' := by
  go_enter Tryz.func3, Tryz.ntmps3
  go_wp2_with fail
  go_loopw [3] (fun i wr => i = J zq 0 ∧ Hid (Ext w wr)) (fun _ _ => 0)
  case atStart => exact ⟨rfl, Ext.refl _⟩
  case round =>
    obtain ⟨rfl, FX⟩ := hrel
    go_wp2_with fail
    refine (wakes15_any _).mono ?_
    rintro e w1 ⟨rfl, x1⟩
    have E1 : Ext w w1 := FX.out.trans x1
    go_wp2_with fail
    go_ret
    exact ⟨rfl, E1⟩
end Go.Proofs.YtoeecldhbabmbaaGreat
