/- VecNorms. -/
import Derived.Test.YtjlfhhgdklblcaaL1
import Derived.Test.YtjlfhhgdklblcaaPr
import Derived.Deep.DeepCutAuto
import Derived.Deep.RegionHeld3
import Derived.Test.YtjlfhhgdklblcaaV6
namespace Go.Proofs.Ytjlfhhgdklblcaa
open Go.RowKit Go.Shelf

set_option maxHeartbeats 40000000 in
set_option maxRecDepth 20000 in
theorem norms_any (b off len cap : Nat) (Z : Nat → Nat → Int) (w : World) (hl : len ≤ maxLen) (hc : Twos3 w b off len Z)
  (HW : Hid (∀ w', Calls Try.prog 11 #[] w' fun e w'' => e = .returned (.bool true) ∧ Ext w' w''))
  (HH : ∀ a0 a1 a2 : Int, ok3 a0 a1 a2 = true → ∃ n e : Int, 
     Hid (∀ w', Calls Try.prog 5 #[.agg #[.int .i64 a0, .int .i64 a1, .int .i64 a2]] w' fun e' w'' => e' = .returned (.tuple #[.int .i64 n, .int .i64 e]) ∧ Ext w' w'') ∧
     Hid (∀ w', Calls Try.prog 5 #[.agg #[.int .i64 (wrap64 (-a2)), .int .i64 a0, .int .i64 (wrap64 (-a1))]] w' fun e' w'' => e' = .returned (.tuple #[.int .i64 n, .int .i64 e]) ∧ Ext w' w'') ∧ ((e = 0 ∧ 0 ≤ n ∧ n < 35184372088832 ∧ ∃ P0 P1 P2 S T D U V c d : Int, Hid (∀ w', Calls Try.prog 9 #[.int .i64 a0, .int .i64 a0] w' fun e' w'' => (∃ r, e' = .returned r ∧ IsI w'' r P0) ∧ Ext w' w'') ∧ Hid (∀ w', Calls Try.prog 9 #[.int .i64 a1, .int .i64 a1] w' fun e' w'' => (∃ r, e' = .returned r ∧ IsI w'' r P1) ∧ Ext w' w'') ∧ Hid (∀ w', Calls Try.prog 9 #[.int .i64 a2, .int .i64 a2] w' fun e' w'' => (∃ r, e' = .returned r ∧ IsI w'' r P2) ∧ Ext w' w'') ∧ Hid (∀ r1 r2 w', IsI w' r1 P0 → IsI w' r2 P1 → Calls Try.prog 8 #[r1, r2] w' fun e' w'' => (∃ r, e' = .returned r ∧ IsI w'' r S) ∧ Ext w' w'') ∧ Hid (∀ r1 r2 w', IsI w' r1 S → IsI w' r2 P2 → Calls Try.prog 8 #[r1, r2] w' fun e' w'' => (∃ r, e' = .returned r ∧ IsI w'' r T) ∧ Ext w' w'') ∧ Hid (∀ r1 w', IsI w' r1 T → Calls Try.prog 7 #[r1, .int .i64 2] w' fun e' w'' => (∃ r, e' = .returned r ∧ IsI w'' r D) ∧ Ext w' w'') ∧ Hid (∀ w', Calls Try.prog 9 #[.int .i64 (2 * n + 1), .int .i64 (2 * n + 1)] w' fun e' w'' => (∃ r, e' = .returned r ∧ IsI w'' r U) ∧ Ext w' w'') ∧ Hid (∀ r1 r2 w', IsI w' r1 U → IsI w' r2 D → Calls Try.prog 10 #[r1, r2] w' fun e' w'' => e' = .returned (.int .i64 c) ∧ Ext w' w'') ∧ (c = 0 ∨ c = 1) ∧ (0 < n → Hid (∀ w', Calls Try.prog 9 #[.int .i64 (2 * n - 1), .int .i64 (2 * n - 1)] w' fun e' w'' => (∃ r, e' = .returned r ∧ IsI w'' r V) ∧ Ext w' w'') ∧ Hid (∀ r1 r2 w', IsI w' r1 V → IsI w' r2 D → Calls Try.prog 10 #[r1, r2] w' fun e' w'' => e' = .returned (.int .i64 d) ∧ Ext w' w'') ∧ (d = 0 ∨ d = -1))) ∨ e = 2)) :
    Calls Try.prog 3 #[.slice (some ⟨b, off, none⟩) len cap] w fun e w' => e = .returned (.bool true) ∧ Ext w w' := by
  have hl' : len ≤ 9223372036854775807 := by unfold maxLen at hl; omega
  clear hl
  go_enter Try.func3, Try.ntmps3
  go_wp2_with fail
  go_loopw [3] (fun i wr => ∃ k : Nat, k ≤ len ∧ i = .int .i64 k ∧ Ext w wr) (fun i _ => len - (intOf i).toNat)
  case atStart => exact ⟨0, Nat.zero_le _, rfl, Ext.refl _⟩
  case round =>
    obtain ⟨k, hk, rfl, hx⟩ := hrel
    by_cases hlt : k < len
    · by_cases h20 : k < 20
      · have RW := (hc.ext hx).row hlt
        have hlt' : (k : Int) < (len : Int) := by omega
        generalize Z k 0 = a0 at *
        generalize Z k 1 = a1 at *
        generalize Z k 2 = a2 at *
        generalize Z k 3 = b0 at *
        generalize Z k 4 = b1 at *
        generalize Z k 5 = b2 at *
        obtain ⟨z0, z1, z2, z3, z4, z5⟩ := RW
        clear z3 z4 z5
        cases g1 : ok3 a0 a1 a2
        · have HMa : Hid (∀ w', Calls Try.prog 4 #[.agg #[.int .i64 a0, .int .i64 a1, .int .i64 a2]] w' fun e w'' => e = .returned (.bool false) ∧ Ext w' w'') := fun w' => by have h := mayv_any a0 a1 a2 w'; rw [g1] at h; exact h
          clear g1 HH
          go_wp2_with fail
          refine (HMa.out _).mono ?_
          rintro e w1 ⟨rfl, x1⟩
          have E1 : Ext w w1 := Ext.trans (Ext.alloc hx _) x1
          clear x1 z0 z1 z2
          go_wp2_with fail
          go_roundw
          case rel => exact ⟨k + 1, by omega, by go_num, E1⟩
          case measure => simp [intOf]; omega
        · have HMa : Hid (∀ w', Calls Try.prog 4 #[.agg #[.int .i64 a0, .int .i64 a1, .int .i64 a2]] w' fun e w'' => e = .returned (.bool true) ∧ Ext w' w'') := fun w' => by have h := mayv_any a0 a1 a2 w'; rw [g1] at h; exact h
          obtain ⟨n, e, HN1, HN2, hne⟩ := HH a0 a1 a2 g1
          clear HH
          have gg := ok3_parts g1
          have gb0 := okW_bounds gg.1
          have gb1 := okW_bounds gg.2.1
          have gb2 := okW_bounds gg.2.2
          clear gg g1
          have G : Hid ((-35184372088832 < a0 ∧ a0 < 35184372088832) ∧ (-35184372088832 < a1 ∧ a1 < 35184372088832) ∧ (-35184372088832 < a2 ∧ a2 < 35184372088832)) := ⟨gb0, gb1, gb2⟩
          clear gb0 gb1 gb2
          go_wp2_with fail
          refine (HMa.out _).mono ?_
          rintro e' w1 ⟨rfl, x1⟩
          have Fa_1 : Hid (H3 w1 (wr.heap.size) (.int .i64 a0) (.int .i64 a1) (.int .i64 a2)) := (h3_at rfl).ext x1
          have E1 : Ext w w1 := Ext.trans (Ext.alloc hx _) x1
          clear x1 z0 z1 z2
          obtain ⟨ca0, ca1, ca2, ca3, ca4, ca5, ca6⟩ := Fa_1.out
          go_wp2_with fail
          refine (HN1.out _).mono ?_
          rintro e' w2 ⟨rfl, x2⟩
          have Fa_2 : Hid (H3 w2 (wr.heap.size) (.int .i64 a0) (.int .i64 a1) (.int .i64 a2)) := Fa_1.out.ext x2
          have E2 : Ext w w2 := E1.trans x2
          clear x2 ca0 ca1 ca2 ca3 ca4 ca5 ca6
          obtain ⟨ca0, ca1, ca2, ca3, ca4, ca5, ca6⟩ := Fa_2.out
          go_wp2_with fail
          refine (HN2.out _).mono ?_
          rintro e' w3 ⟨rfl, x3⟩
          have Fa_3 : Hid (H3 w3 (wr.heap.size) (.int .i64 a0) (.int .i64 a1) (.int .i64 a2)) := Fa_2.out.ext x3
          have E3 : Ext w w3 := E2.trans x3
          clear x3 ca0 ca1 ca2 ca3 ca4 ca5 ca6 Fa_1 Fa_2 E1 E2 HN1 HN2 HMa
          rcases hne with ⟨rfl, n0, n1, P0, P1, P2, S, T, D, U, V, c, d, H0, H1, H2, HS, HT, HL, HU, HC, hc, hd⟩ | rfl
          · obtain ⟨ca0, ca1, ca2, ca3, ca4, ca5, ca6⟩ := Fa_3.out
            go_wp2_with (go_at_call 6; refine (num3_any _ _).mono ?_; rintro e wx ⟨rfl, hwx⟩; have hwy := hwx.symm; clear hwx; subst hwy)
            have ne0 := Nat.ne_of_lt ca6
            have nf0 := (Nat.ne_of_lt ca6).symm
            have b0 := fun o => cell_al ca0 o
            have b1 := fun o => cell_al ca1 o
            have b2 := fun o => cell_al ca2 o
            go_cut [9] (fun s9 wx => ∃ gu au lu cu, s9 = .pointer (some ⟨gu, 0, none⟩) ∧ Hid (OneV w3 wx gu (.bool (decide (D < 0))) (.slice au lu cu) D.natAbs))
            case first =>
              clear HU HC hc hd HW G hx hk hlt h20 n0 n1 ca3 ca4 ca5 E3 hl'
              go_region_held3 (fun w' => w'.cell? ⟨wr.heap.size, 0, none⟩ = some (.int .i64 a0) ∧ w'.cell? ⟨wr.heap.size, 1, none⟩ = some (.int .i64 a1) ∧ w'.cell? ⟨wr.heap.size, 2, none⟩ = some (.int .i64 a2)) (first | (go_keep; done) | skip) (first | (go_at_call_of 9 (Value.int IntKind.i64 a0); refine (H0.out _).mono ?_; rintro e' v1 ⟨⟨r1, rfl, h1⟩, x1⟩; have X1z : Ext w3 v1 := (by first | with_reducible exact x1 | with_reducible exact cell_drew x1 | with_reducible exact Ext.trans (Ext.alloc (Ext.refl _) _) x1 | with_reducible exact Ext.trans (Ext.alloc (Ext.drew (Ext.refl _)) _) x1 | with_reducible exact Ext.trans (Ext.drew (Ext.alloc (Ext.refl _) _)) x1); have X1 : Hid (Ext w3 v1) := X1z; clear X1z; have Y1 : Hid (Ext w3 v1) := X1.out; obtain ⟨c10, c11, c12, c13, c14, c15, c16⟩ := Fa_3.out.ext Y1.out; have ne1 := Nat.ne_of_lt c16; have nf1 := (Nat.ne_of_lt c16).symm; have d10 := fun o => cell_al c10 o; have d11 := fun o => cell_al c11 o; have d12 := fun o => cell_al c12 o; (try (first | (have NB : Hid _ := Has.ext NB.out X1.out) | ((with_reducible have NBz := ext_new1 x1); have NB : Hid _ := NBz; clear NBz) | ((with_reducible have NBz := ext_new1 (cell_drew x1)); have NB : Hid _ := NBz; clear NBz)); (try simp only [World.size_alloc, size_drewN] at NB); obtain ⟨nb0, nb1, nb2, nb3⟩ := NB.out)) | (go_at_call_of 9 (Value.int IntKind.i64 a1); refine (H1.out _).mono ?_; rintro e' v2 ⟨⟨r2, rfl, h2⟩, x2⟩; have X2z : Ext v1 v2 := (by first | with_reducible exact x2 | with_reducible exact cell_drew x2 | with_reducible exact Ext.trans (Ext.alloc (Ext.refl _) _) x2 | with_reducible exact Ext.trans (Ext.alloc (Ext.drew (Ext.refl _)) _) x2 | with_reducible exact Ext.trans (Ext.drew (Ext.alloc (Ext.refl _) _)) x2); have X2 : Hid (Ext v1 v2) := X2z; clear X2z; have Y2 : Hid (Ext w3 v2) := (X1.out).trans X2.out; obtain ⟨c20, c21, c22, c23, c24, c25, c26⟩ := Fa_3.out.ext Y2.out; have ne2 := Nat.ne_of_lt c26; have nf2 := (Nat.ne_of_lt c26).symm; have d20 := fun o => cell_al c20 o; have d21 := fun o => cell_al c21 o; have d22 := fun o => cell_al c22 o; (try (first | (have NB : Hid _ := Has.ext NB.out X2.out) | ((with_reducible have NBz := ext_new1 x2); have NB : Hid _ := NBz; clear NBz) | ((with_reducible have NBz := ext_new1 (cell_drew x2)); have NB : Hid _ := NBz; clear NBz)); (try simp only [World.size_alloc, size_drewN] at NB); obtain ⟨nb0, nb1, nb2, nb3⟩ := NB.out)) | (go_at_call_of 8 r1; refine (HS.out _ _ _ ((h1.ext (X2.out)).ext (by first | with_reducible exact Ext.refl _ | with_reducible exact Ext.alloc (Ext.refl _) _ | with_reducible exact Ext.drew (Ext.refl _) | with_reducible exact Ext.alloc (Ext.drew (Ext.refl _)) _)) (h2.ext (by first | with_reducible exact Ext.refl _ | with_reducible exact Ext.alloc (Ext.refl _) _ | with_reducible exact Ext.drew (Ext.refl _) | with_reducible exact Ext.alloc (Ext.drew (Ext.refl _)) _))).mono ?_; rintro e' v3 ⟨⟨r3, rfl, h3⟩, x3⟩; have X3z : Ext v2 v3 := (by first | with_reducible exact x3 | with_reducible exact cell_drew x3 | with_reducible exact Ext.trans (Ext.alloc (Ext.refl _) _) x3 | with_reducible exact Ext.trans (Ext.alloc (Ext.drew (Ext.refl _)) _) x3 | with_reducible exact Ext.trans (Ext.drew (Ext.alloc (Ext.refl _) _)) x3); have X3 : Hid (Ext v2 v3) := X3z; clear X3z; have Y3 : Hid (Ext w3 v3) := ((X1.out).trans X2.out).trans X3.out; obtain ⟨c30, c31, c32, c33, c34, c35, c36⟩ := Fa_3.out.ext Y3.out; have ne3 := Nat.ne_of_lt c36; have nf3 := (Nat.ne_of_lt c36).symm; have d30 := fun o => cell_al c30 o; have d31 := fun o => cell_al c31 o; have d32 := fun o => cell_al c32 o; (try (first | (have NB : Hid _ := Has.ext NB.out X3.out) | ((with_reducible have NBz := ext_new1 x3); have NB : Hid _ := NBz; clear NBz) | ((with_reducible have NBz := ext_new1 (cell_drew x3)); have NB : Hid _ := NBz; clear NBz)); (try simp only [World.size_alloc, size_drewN] at NB); obtain ⟨nb0, nb1, nb2, nb3⟩ := NB.out)) | (go_at_call_of 9 (Value.int IntKind.i64 a2); refine (H2.out _).mono ?_; rintro e' v4 ⟨⟨r4, rfl, h4⟩, x4⟩; have X4z : Ext v3 v4 := (by first | with_reducible exact x4 | with_reducible exact cell_drew x4 | with_reducible exact Ext.trans (Ext.alloc (Ext.refl _) _) x4 | with_reducible exact Ext.trans (Ext.alloc (Ext.drew (Ext.refl _)) _) x4 | with_reducible exact Ext.trans (Ext.drew (Ext.alloc (Ext.refl _) _)) x4); have X4 : Hid (Ext v3 v4) := X4z; clear X4z; have Y4 : Hid (Ext w3 v4) := (((X1.out).trans X2.out).trans X3.out).trans X4.out; obtain ⟨c40, c41, c42, c43, c44, c45, c46⟩ := Fa_3.out.ext Y4.out; have ne4 := Nat.ne_of_lt c46; have nf4 := (Nat.ne_of_lt c46).symm; have d40 := fun o => cell_al c40 o; have d41 := fun o => cell_al c41 o; have d42 := fun o => cell_al c42 o; (try (first | (have NB : Hid _ := Has.ext NB.out X4.out) | ((with_reducible have NBz := ext_new1 x4); have NB : Hid _ := NBz; clear NBz) | ((with_reducible have NBz := ext_new1 (cell_drew x4)); have NB : Hid _ := NBz; clear NBz)); (try simp only [World.size_alloc, size_drewN] at NB); obtain ⟨nb0, nb1, nb2, nb3⟩ := NB.out)) | (go_at_call_of 8 r3; refine (HT.out _ _ _ ((h3.ext (X4.out)).ext (by first | with_reducible exact Ext.refl _ | with_reducible exact Ext.alloc (Ext.refl _) _ | with_reducible exact Ext.drew (Ext.refl _) | with_reducible exact Ext.alloc (Ext.drew (Ext.refl _)) _)) (h4.ext (by first | with_reducible exact Ext.refl _ | with_reducible exact Ext.alloc (Ext.refl _) _ | with_reducible exact Ext.drew (Ext.refl _) | with_reducible exact Ext.alloc (Ext.drew (Ext.refl _)) _))).mono ?_; rintro e' v5 ⟨⟨r5, rfl, h5⟩, x5⟩; have X5z : Ext v4 v5 := (by first | with_reducible exact x5 | with_reducible exact cell_drew x5 | with_reducible exact Ext.trans (Ext.alloc (Ext.refl _) _) x5 | with_reducible exact Ext.trans (Ext.alloc (Ext.drew (Ext.refl _)) _) x5 | with_reducible exact Ext.trans (Ext.drew (Ext.alloc (Ext.refl _) _)) x5); have X5 : Hid (Ext v4 v5) := X5z; clear X5z; have Y5 : Hid (Ext w3 v5) := ((((X1.out).trans X2.out).trans X3.out).trans X4.out).trans X5.out; obtain ⟨c50, c51, c52, c53, c54, c55, c56⟩ := Fa_3.out.ext Y5.out; have ne5 := Nat.ne_of_lt c56; have nf5 := (Nat.ne_of_lt c56).symm; have d50 := fun o => cell_al c50 o; have d51 := fun o => cell_al c51 o; have d52 := fun o => cell_al c52 o; (try (first | (have NB : Hid _ := Has.ext NB.out X5.out) | ((with_reducible have NBz := ext_new1 x5); have NB : Hid _ := NBz; clear NBz) | ((with_reducible have NBz := ext_new1 (cell_drew x5)); have NB : Hid _ := NBz; clear NBz)); (try simp only [World.size_alloc, size_drewN] at NB); obtain ⟨nb0, nb1, nb2, nb3⟩ := NB.out)) | (go_at_call 7; refine (HL.out _ _ (h5.ext (by first | with_reducible exact Ext.refl _ | with_reducible exact Ext.alloc (Ext.refl _) _ | with_reducible exact Ext.drew (Ext.refl _) | with_reducible exact Ext.alloc (Ext.drew (Ext.refl _)) _))).mono ?_; rintro e' v6 ⟨⟨r6, rfl, h6⟩, x6⟩; have X6z : Ext v5 v6 := (by first | with_reducible exact x6 | with_reducible exact cell_drew x6 | with_reducible exact Ext.trans (Ext.alloc (Ext.refl _) _) x6 | with_reducible exact Ext.trans (Ext.alloc (Ext.drew (Ext.refl _)) _) x6 | with_reducible exact Ext.trans (Ext.drew (Ext.alloc (Ext.refl _) _)) x6); have X6 : Hid (Ext v5 v6) := X6z; clear X6z; have Y6 : Hid (Ext w3 v6) := (((((X1.out).trans X2.out).trans X3.out).trans X4.out).trans X5.out).trans X6.out; obtain ⟨c60, c61, c62, c63, c64, c65, c66⟩ := Fa_3.out.ext Y6.out; have ne6 := Nat.ne_of_lt c66; have nf6 := (Nat.ne_of_lt c66).symm; have d60 := fun o => cell_al c60 o; have d61 := fun o => cell_al c61 o; have d62 := fun o => cell_al c62 o; (try (first | (have NB : Hid _ := Has.ext NB.out X6.out) | ((with_reducible have NBz := ext_new1 x6); have NB : Hid _ := NBz; clear NBz) | ((with_reducible have NBz := ext_new1 (cell_drew x6)); have NB : Hid _ := NBz; clear NBz)); (try simp only [World.size_alloc, size_drewN] at NB); obtain ⟨nb0, nb1, nb2, nb3⟩ := NB.out); obtain ⟨uu, huu, k6⟩ := h6; obtain ⟨au, lu, cu, hau⟩ := k6.isSlice; subst hau; subst huu))
              all_goals
                go_wp2_with fail
                go_meet
                first
                  | with_reducible exact ⟨_, _, _, _, rfl, one_a Y6.out k6⟩
                  | ((with_reducible refine ⟨_, _, _, _, rfl, one_b Y6.out k6 ?_ ?_⟩) <;> (first | with_reducible exact NB.out | (have s1 := Y1.out.size; have s2 := Y2.out.size; have s3 := Y3.out.size; have s4 := Y4.out.size; have s5 := Y5.out.size; have s6 := Y6.out.size; omega)))
            case rest =>
              obtain ⟨gu, au, lu, cu, rfl, hO⟩ := hcut
              have E4 : Hid (Ext w wc) := E3.trans hO.out.x
              have HI : Hid (IsI wc (.agg #[.bool (decide (D < 0)), .slice au lu cu]) D) := ⟨_, rfl, hO.out.i⟩
              have FH : Hid (Has wc gu (.bool (decide (D < 0))) (.slice au lu cu)) := hO.out.h
              clear ca0 ca1 ca2 ca3 ca4 ca5 ca6 ne0 nf0 b0 b1 b2 H0 H1 H2 HS HT HL Fa_3 E3 hO G
              generalize decide (D < 0) = sd at *
              have q0 : wc.cell? ⟨gu, 0, none⟩ = some (.bool sd) := FH.out.c0
              have q1 : wc.cell? ⟨gu, 1, none⟩ = some (.slice au lu cu) := FH.out.c1
              have c0 : decide (c < 0) = false := by rcases hc with rfl | rfl <;> rfl
              clear hc
              by_cases hn : 0 < n
              · obtain ⟨HU2, HC2, hd1⟩ := hd hn
                have g1 : decide (0 < n) = true := decide_eq_true hn
                have g2 : decide (n < 0) = false := decide_eq_false (by omega)
                have g3 : decide (0 < d) = false := by rcases hd1 with rfl | rfl <;> rfl
                obtain ⟨m, e1, hm⟩ : ∃ m, IntKind.i64.wrap (2 * n) = m ∧ m = 2 * n := ⟨2 * n, by rw [IntKind.wrap_i64]; omega, rfl⟩
                obtain ⟨t1, e2, ht1⟩ : ∃ t, IntKind.i64.wrap (m + 1) = t ∧ t = 2 * n + 1 := ⟨2 * n + 1, by rw [IntKind.wrap_i64]; omega, rfl⟩
                obtain ⟨t2, e3, ht2⟩ : ∃ t, IntKind.i64.wrap (m - 1) = t ∧ t = 2 * n - 1 := ⟨2 * n - 1, by rw [IntKind.wrap_i64]; omega, rfl⟩
                rw [← ht1] at HU
                rw [← ht2] at HU2
                clear ht1 ht2 hm
                clear hd hd1 hn n0 n1
                go_upto_region 12 with fail
                go_region_held3 (fun w' => w'.cell? ⟨gu, 0, none⟩ = some (.bool sd) ∧ w'.cell? ⟨gu, 1, none⟩ = some (.slice au lu cu)) (first | (go_keep; done) | skip) (first | (go_at_call_of 9 (Value.int IntKind.i64 t1); refine (HU.out _).mono ?_; rintro e' v1 ⟨⟨r1, rfl, h1⟩, x1⟩; have Z1 : Ext wc v1 := (by first | with_reducible exact x1 | with_reducible exact cell_drew x1); clear x1; have X1 : Hid (Ext wc v1) := Z1; clear Z1; have k1a : v1.cell? ⟨gu, 0, none⟩ = some (.bool sd) := (FH.out.ext X1.out).c0; have k1b : v1.cell? ⟨gu, 1, none⟩ = some (.slice au lu cu) := (FH.out.ext X1.out).c1; have H1 : Hid (IsI v1 r1 U) := h1; clear h1) | (go_at_call_of 10 r1; refine (HC.out _ _ _ H1.out (HI.out.ext X1.out)).mono ?_; rintro e' v2 ⟨rfl, x2⟩; have Z2 : Ext v1 v2 := (by first | with_reducible exact x2 | with_reducible exact cell_drew x2); clear x2; have X2 : Hid (Ext wc v2) := X1.out.trans Z2; clear Z2; have k2a : v2.cell? ⟨gu, 0, none⟩ = some (.bool sd) := (FH.out.ext X2.out).c0; have k2b : v2.cell? ⟨gu, 1, none⟩ = some (.slice au lu cu) := (FH.out.ext X2.out).c1) | (go_at_call_of 9 (Value.int IntKind.i64 t2); refine (HU2.out _).mono ?_; rintro e' v3 ⟨⟨r3, rfl, h3⟩, x3⟩; have Z3 : Ext v2 v3 := (by first | with_reducible exact x3 | with_reducible exact cell_drew x3); clear x3; have X3 : Hid (Ext wc v3) := X2.out.trans Z3; clear Z3; have k3a : v3.cell? ⟨gu, 0, none⟩ = some (.bool sd) := (FH.out.ext X3.out).c0; have k3b : v3.cell? ⟨gu, 1, none⟩ = some (.slice au lu cu) := (FH.out.ext X3.out).c1; have H3 : Hid (IsI v3 r3 V) := h3; clear h3) | (go_at_call_of 10 r3; refine (HC2.out _ _ _ H3.out (HI.out.ext X3.out)).mono ?_; rintro e' v4 ⟨rfl, x4⟩; have Z4 : Ext v3 v4 := (by first | with_reducible exact x4 | with_reducible exact cell_drew x4); clear x4; have X4 : Hid (Ext wc v4) := X3.out.trans Z4; clear Z4; have k4a : v4.cell? ⟨gu, 0, none⟩ = some (.bool sd) := (FH.out.ext X4.out).c0; have k4b : v4.cell? ⟨gu, 1, none⟩ = some (.slice au lu cu) := (FH.out.ext X4.out).c1))
                all_goals
                  go_wp2_with fail
                  go_roundw
                  case rel => exact ⟨k + 1, by omega, by go_num, E4.out.trans X4.out⟩
                  case measure => simp [intOf]; omega
              · have hz : n = 0 := by omega
                subst hz
                have HU1 : Hid (∀ w', Calls Try.prog 9 #[.int .i64 1, .int .i64 1] w' fun e' w'' => (∃ r, e' = .returned r ∧ IsI w'' r U) ∧ Ext w' w'') := HU
                clear hd hn n0 n1 HU
                have w0 : IntKind.i64.wrap 0 = 0 := rfl
                have w1 : IntKind.i64.wrap 1 = 1 := rfl
                go_upto_region 12 with fail
                refine wp_region_held_drew (S := (fun w' => w'.cell? ⟨gu, 0, none⟩ = some (.bool sd) ∧ w'.cell? ⟨gu, 1, none⟩ = some (.slice au lu cu))) (by kernel_rfl) ?_ (fun hHeld => ?_)
                · ((try dsimp only); go_keep)
                refine wpAnyH_take (i := 0) (v := .int .i64 0) rfl (by kernel_rfl) (by kernel_rfl) (by kernel_rfl) (fun _ _ _ h => h) (Or.inl ⟨by rfl, ?_⟩) (by assumption) ?_
                · (intro w hSw; (try dsimp only at hSw); go_simp)
                go_simp
                refine wpAnyH_take (i := 1) (v := .int .i64 0) rfl (by kernel_rfl) (by kernel_rfl) (by kernel_rfl) (fun _ _ _ h => h) (Or.inl ⟨by rfl, ?_⟩) (by assumption) ?_
                · (intro w hSw; (try dsimp only at hSw); go_simp)
                go_simp
                refine wpAnyH_take (i := 2) (v := .int .i64 1) rfl (by kernel_rfl) (by kernel_rfl) (by kernel_rfl) (fun _ _ _ h => h) (Or.inl ⟨by rfl, ?_⟩) (by assumption) ?_
                · (intro w hSw; (try dsimp only at hSw); go_simp)
                go_simp
                refine wpAnyH_take (i := 3) (v := .int .i64 0) rfl (by kernel_rfl) (by kernel_rfl) (by kernel_rfl) (fun _ _ _ h => h) (Or.inl ⟨by rfl, ?_⟩) (by assumption) ?_
                · (intro w hSw; (try dsimp only at hSw); go_simp)
                go_simp
                refine wpAnyH_take (i := 4) (v := .int .i64 0) rfl (by kernel_rfl) (by kernel_rfl) (by kernel_rfl) (fun _ _ _ h => h) (Or.inl ⟨by rfl, ?_⟩) (by assumption) ?_
                · (intro w hSw; (try dsimp only at hSw); go_simp)
                go_simp
                refine wpAnyH_take (i := 5) (v := .int .i64 1) rfl (by kernel_rfl) (by kernel_rfl) (by kernel_rfl) (fun _ _ _ h => h) (Or.inl ⟨by rfl, ?_⟩) (by assumption) ?_
                · (intro w hSw; (try dsimp only at hSw); go_simp)
                go_simp
                refine wpAnyH_take (i := 7) (v := .agg #[.bool sd, .slice au lu cu]) rfl (by kernel_rfl) (by kernel_rfl) (by kernel_rfl) (fun _ _ _ h => h) (Or.inl ⟨by rfl, ?_⟩) (by assumption) ?_
                · (intro w hSw; (try dsimp only at hSw); go_simp)
                go_simp
                refine wpAnyH_ready (rs := [6]) (by kernel_rfl) (by simp) ?_
                refine AllReadyH.cons rfl (fun K hK => ?_) AllReadyH.nil
                go_simp
                go_wp2_with (go_at_call_of 9 (Value.int IntKind.i64 1); refine (HU1.out _).mono ?_; rintro e' v1 ⟨⟨r1, rfl, h1⟩, x1⟩; have Z1 : Ext wc v1 := (by first | with_reducible exact x1 | with_reducible exact cell_drew x1); clear x1; have X1 : Hid (Ext wc v1) := Z1; clear Z1; have k1a : v1.cell? ⟨gu, 0, none⟩ = some (.bool sd) := (FH.out.ext X1.out).c0; have k1b : v1.cell? ⟨gu, 1, none⟩ = some (.slice au lu cu) := (FH.out.ext X1.out).c1; have H1 : Hid (IsI v1 r1 U) := h1; clear h1)
                refine hK.out _ _ ?_ (fun hHeld => ?_)
                · ((try dsimp only); go_keep)
                clear hK K
                refine wpAnyH_ready (rs := [8]) (by kernel_rfl) (by simp) ?_
                refine AllReadyH.cons rfl (fun K hK => ?_) AllReadyH.nil
                go_simp
                go_wp2_with (go_at_call_of 10 r1; refine (HC.out _ _ _ H1.out (HI.out.ext X1.out)).mono ?_; rintro e' v2 ⟨rfl, x2⟩; have Z2 : Ext v1 v2 := (by first | with_reducible exact x2 | with_reducible exact cell_drew x2); clear x2; have X2 : Hid (Ext wc v2) := X1.out.trans Z2; clear Z2; have k2a : v2.cell? ⟨gu, 0, none⟩ = some (.bool sd) := (FH.out.ext X2.out).c0; have k2b : v2.cell? ⟨gu, 1, none⟩ = some (.slice au lu cu) := (FH.out.ext X2.out).c1)
                refine hK.out _ _ ?_ (fun hHeld => ?_)
                · ((try dsimp only); go_keep)
                clear hK K
                refine wpAnyH_take (i := 9) (v := .bool false) rfl (by kernel_rfl) (by kernel_rfl) (by kernel_rfl) (fun _ _ _ h => h) (Or.inl ⟨by rfl, ?_⟩) (by assumption) ?_
                · (intro w hSw; (try dsimp only at hSw); go_simp)
                go_simp
                refine wpAnyH_take (i := 10) (v := .bool false) rfl (by kernel_rfl) (by kernel_rfl) (by kernel_rfl) (fun _ _ _ h => h) (Or.inl ⟨by rfl, ?_⟩) (by assumption) ?_
                · (intro w hSw; (try dsimp only at hSw); go_simp)
                go_simp
                refine wpAnyH_take (i := 11) (v := .int .i64 0) rfl (by kernel_rfl) (by kernel_rfl) (by kernel_rfl) (fun _ _ _ h => h) (Or.inl ⟨by rfl, ?_⟩) (by assumption) ?_
                · (intro w hSw; (try dsimp only at hSw); go_simp)
                go_simp
                refine wpAnyH_take (i := 12) (v := .bool false) rfl (by kernel_rfl) (by kernel_rfl) (by kernel_rfl) (fun _ _ _ h => h) (Or.inl ⟨by rfl, ?_⟩) (by assumption) ?_
                · (intro w hSw; (try dsimp only at hSw); go_simp)
                go_simp
                refine wpAnyH_take (i := 13) (v := .bool false) rfl (by kernel_rfl) (by kernel_rfl) (by kernel_rfl) (fun _ _ _ h => h) (Or.inl ⟨by rfl, ?_⟩) (by assumption) ?_
                · (intro w hSw; (try dsimp only at hSw); go_simp)
                go_simp
                refine wpAnyH_take (i := 14) (v := undef) rfl (by kernel_rfl) (by kernel_rfl) (by kernel_rfl) (fun _ _ _ h => h) (Or.inr ⟨by rfl, rfl⟩) (by assumption) ?_
                go_simp
                refine wpAnyH_take (i := 15) (v := undef) rfl (by kernel_rfl) (by kernel_rfl) (by kernel_rfl) (fun _ _ _ h => h) (Or.inr ⟨by rfl, rfl⟩) (by assumption) ?_
                go_simp
                refine wpAnyH_take (i := 16) (v := undef) rfl (by kernel_rfl) (by kernel_rfl) (by kernel_rfl) (fun _ _ _ h => h) (Or.inr ⟨by rfl, rfl⟩) (by assumption) ?_
                go_simp
                refine wpAnyH_take (i := 17) (v := undef) rfl (by kernel_rfl) (by kernel_rfl) (by kernel_rfl) (fun _ _ _ h => h) (Or.inr ⟨by rfl, rfl⟩) (by assumption) ?_
                go_simp
                refine wpAnyH_take (i := 18) (v := undef) rfl (by kernel_rfl) (by kernel_rfl) (by kernel_rfl) (fun _ _ _ h => h) (Or.inr ⟨by rfl, rfl⟩) (by assumption) ?_
                go_simp
                refine wpAnyH_take (i := 19) (v := undef) rfl (by kernel_rfl) (by kernel_rfl) (by kernel_rfl) (fun _ _ _ h => h) (Or.inr ⟨by rfl, rfl⟩) (by assumption) ?_
                go_simp
                refine wpAnyH_take (i := 20) (v := undef) rfl (by kernel_rfl) (by kernel_rfl) (by kernel_rfl) (fun _ _ _ h => h) (Or.inr ⟨by rfl, rfl⟩) (by assumption) ?_
                go_simp
                refine wpAnyH_take (i := 21) (v := undef) rfl (by kernel_rfl) (by kernel_rfl) (by kernel_rfl) (fun _ _ _ h => h) (Or.inr ⟨by rfl, rfl⟩) (by assumption) ?_
                go_simp
                refine wpAnyH_take (i := 22) (v := undef) rfl (by kernel_rfl) (by kernel_rfl) (by kernel_rfl) (fun _ _ _ h => h) (Or.inr ⟨by rfl, rfl⟩) (by assumption) ?_
                go_simp
                refine wpAnyH_take (i := 23) (v := undef) rfl (by kernel_rfl) (by kernel_rfl) (by kernel_rfl) (fun _ _ _ h => h) (Or.inr ⟨by rfl, rfl⟩) (by assumption) ?_
                go_simp
                refine wpAnyH_take (i := 24) (v := .bool false) rfl (by kernel_rfl) (by kernel_rfl) (by kernel_rfl) (fun _ _ _ h => h) (Or.inl ⟨by rfl, ?_⟩) (by assumption) ?_
                · (intro w hSw; (try dsimp only at hSw); go_simp)
                go_simp
                refine wpAnyH_take (i := 25) (v := .bool false) rfl (by kernel_rfl) (by kernel_rfl) (by kernel_rfl) (fun _ _ _ h => h) (Or.inl ⟨by rfl, ?_⟩) (by assumption) ?_
                · (intro w hSw; (try dsimp only at hSw); go_simp)
                go_simp
                refine wpAnyH_take (i := 26) (v := .bool false) rfl (by kernel_rfl) (by kernel_rfl) (by kernel_rfl) (fun _ _ _ h => h) (Or.inl ⟨by rfl, ?_⟩) (by assumption) ?_
                · (intro w hSw; (try dsimp only at hSw); go_simp)
                go_simp
                refine wpAnyH_take (i := 27) (v := .int .i64 0) rfl (by kernel_rfl) (by kernel_rfl) (by kernel_rfl) (fun _ _ _ h => h) (Or.inl ⟨by rfl, ?_⟩) (by assumption) ?_
                · (intro w hSw; (try dsimp only at hSw); go_simp)
                go_simp
                refine wpAnyH_take (i := 28) (v := .bool false) rfl (by kernel_rfl) (by kernel_rfl) (by kernel_rfl) (fun _ _ _ h => h) (Or.inl ⟨by rfl, ?_⟩) (by assumption) ?_
                · (intro w hSw; (try dsimp only at hSw); go_simp)
                go_simp
                refine wpAnyH_take (i := 29) (v := .bool false) rfl (by kernel_rfl) (by kernel_rfl) (by kernel_rfl) (fun _ _ _ h => h) (Or.inl ⟨by rfl, ?_⟩) (by assumption) ?_
                · (intro w hSw; (try dsimp only at hSw); go_simp)
                go_simp
                refine wpAnyH_done (by kernel_rfl) ?_ _
                go_wp2_with fail
                go_roundw
                case rel => exact ⟨k + 1, by omega, by go_num, E4.out.trans X2.out⟩
                case measure => simp [intOf]; omega
          · go_wp2_with (go_at_call 6; refine (num3_any _ _).mono ?_; rintro e wx ⟨rfl, hwx⟩; have hwy := hwx.symm; clear hwx; subst hwy)
            go_roundw
            case rel => exact ⟨k + 1, by omega, by go_num, E3⟩
            case measure => simp [intOf]; omega
      · go_wp2_with fail
        refine (HW.out _).mono ?_
        rintro e w1 ⟨rfl, x1⟩
        go_wp2_with fail
        go_ret
        exact ⟨rfl, hx.trans x1⟩
    · go_wp2_with fail
      refine (HW.out _).mono ?_
      rintro e w1 ⟨rfl, x1⟩
      go_wp2_with fail
      go_ret
      exact ⟨rfl, hx.trans x1⟩
end Go.Proofs.Ytjlfhhgdklblcaa
