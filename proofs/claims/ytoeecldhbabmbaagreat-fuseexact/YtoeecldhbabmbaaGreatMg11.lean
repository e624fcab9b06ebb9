/- cmp.Or. quat: check, Check. quat: through, by turned. quat: what is told of each number; turned. -/
import Derived.Test.YtoeecldhbabmbaaGreatMg3
import Derived.Test.YtoeecldhbabmbaaGreatMg2
import Derived.Deep.RegionHeld
import Derived.Test.YtoeecldhbabmbaaGreatMg9
import Derived.Test.YtoeecldhbabmbaaGreatQ2m
import Derived.Test.YtoeecldhbabmbaaGreatW8m
import Derived.Deep.DeepCutAuto
open Go.Value renaming int → J, agg → zG
open Go.IntKind renaming i64 → zq, u64 → zu
open Go.Ending renaming returned → zR
open Go.Proofs.Tryz renaming prog → zP
namespace Go.Proofs.YtoeecldhbabmbaaGreat
open Go.RowKit Go.Shelf
set_option maxRecDepth 20000 in
set_option maxHeartbeats 2000000 in
theorem cmpOr_any (n B : Nat) (E : Nat → Int) (w : World) (hn : n ≤ 4) (HB : Hid (∀ i, i < n → w.cell? ⟨B, i, none⟩ = some (J zq (E i)) ∧ B < w.heap.size)) :
    Calls zP 43 #[.slice (some ⟨B, 0, none⟩) n n] w fun e w' => (∃ r : Int, e = zR (J zq r) ∧ ((∃ k, k < n ∧ (∀ i, i < k → E i = 0) ∧ E k ≠ 0 ∧ r = E k) ∨ ((∀ i, i < n → E i = 0) ∧ r = 0))) ∧ Ext w w' := by
  go_enter Tryz.func43, Tryz.ntmps43
  go_wp2_with fail
  go_loopw [8] (fun i wr => ∃ k : Nat, k ≤ n ∧ i = J zq (k : Int) ∧ Hid (∀ i, i < k → E i = 0) ∧ Ext w wr) (fun i _ => n - (intOf i).toNat)
  case atStart => exact ⟨0, by omega, rfl, fun i hi => by omega, Ext.refl _⟩
  case round =>
    obtain ⟨k, hk, rfl, hE, hx⟩ := hrel
    by_cases hlt : k < n
    · have kx : (k : Int) < (n : Int) := by omega
      obtain ⟨hcy, hay⟩ := HB.out k hlt
      have hcy := ((hx.lay).1 B k hay).trans hcy
      by_cases h0 : E k = 0
      · have H1 : Hid (∀ i, i < k + 1 → E i = 0) := fun i hi => by
          rcases Nat.lt_or_ge i k with h | h
          · exact hE.out i h
          · obtain rfl : i = k := by omega
            exact h0
        rw [h0] at hcy
        clear hE HB
        go_wp2_with fail
        go_roundw
        case rel => exact ⟨k + 1, by omega, by go_num, H1, hx⟩
        case measure => simp [intOf]; omega
      · have h1 : (E k != 0) = true := by simp [h0]
        have H1 : Hid (∃ k, k < n ∧ (∀ i, i < k → E i = 0) ∧ E k ≠ 0 ∧ E k = E k) := ⟨k, hlt, hE.out, h0, rfl⟩
        have H2 : Hid (∃ j, j < n ∧ (∀ i, i < j → E i = 0) ∧ E j ≠ 0 ∧ E k = E j) := ⟨k, hlt, hE.out, h0, rfl⟩
        clear hE HB H1
        generalize E k = x at *
        go_wp2_with fail
        go_ret
        exact ⟨⟨x, rfl, Or.inl H2.out⟩, hx⟩
    · have hkn : k = n := by omega
      subst hkn
      have H2 : Hid (∀ i, i < k → E i = 0) := hE
      clear HB hE
      go_wp2_with fail
      go_ret
      exact ⟨⟨0, rfl, Or.inr ⟨H2.out, rfl⟩⟩, hx⟩
theorem cmpOr4 (a b c d r : Int) (g : Nat) (w : World) (h : H4 w g (J zq a) (J zq b) (J zq c) (J zq d)) (hr : r = if a ≠ 0 then a else if b ≠ 0 then b else if c ≠ 0 then c else d) :
    Calls zP 43 #[.slice (some ⟨g, 0, none⟩) 4 4] w fun e w' => e = zR (J zq r) ∧ Ext w w' := by
  obtain ⟨c0, c1, c2, c3, f0, f1, f2, f3, hb⟩ := h
  refine (cmpOr_any 4 g (fun i => if i = 0 then a else if i = 1 then b else if i = 2 then c else d) w (by omega) (fun i hi => ?_)).mono ?_
  · obtain rfl | rfl | rfl | rfl : i = 0 ∨ i = 1 ∨ i = 2 ∨ i = 3 := by omega
    · exact ⟨c0, hb⟩
    · exact ⟨c1, hb⟩
    · exact ⟨c2, hb⟩
    · exact ⟨c3, hb⟩
  · rintro e w1 ⟨⟨s, rfl, hs⟩, x1⟩
    refine ⟨?_, x1⟩
    have : s = r := by
      rcases hs with ⟨k, hk, h1, h2, rfl⟩ | ⟨h1, rfl⟩
      · obtain rfl | rfl | rfl | rfl : k = 0 ∨ k = 1 ∨ k = 2 ∨ k = 3 := by omega
        · have g0 : a ≠ 0 := h2
          rw [hr]; simp_all
        · have g0 : a = 0 := h1 0 (by omega)
          have g1 : b ≠ 0 := h2
          rw [hr]; simp_all
        · have g0 : a = 0 := h1 0 (by omega)
          have g1 : b = 0 := h1 1 (by omega)
          have g2 : c ≠ 0 := h2
          rw [hr]; simp_all
        · have g0 : a = 0 := h1 0 (by omega)
          have g1 : b = 0 := h1 1 (by omega)
          have g2 : c = 0 := h1 2 (by omega)
          rw [hr]; simp_all
      · have g0 : a = 0 := h1 0 (by omega)
        have g1 : b = 0 := h1 1 (by omega)
        have g2 : c = 0 := h1 2 (by omega)
        have g3 : d = 0 := h1 3 (by omega)
        rw [hr]; simp_all
    rw [this]
theorem cmpOr2 (a b r : Int) (g : Nat) (w : World) (h : H2 w g (J zq a) (J zq b)) (hr : r = if a ≠ 0 then a else b) :
    Calls zP 43 #[.slice (some ⟨g, 0, none⟩) 2 2] w fun e w' => e = zR (J zq r) ∧ Ext w w' := by
  obtain ⟨c0, c1, f0, f1, hb⟩ := h
  refine (cmpOr_any 2 g (fun i => if i = 0 then a else b) w (by omega) (fun i hi => ?_)).mono ?_
  · obtain rfl | rfl : i = 0 ∨ i = 1 := by omega
    · exact ⟨c0, hb⟩
    · exact ⟨c1, hb⟩
  · rintro e w1 ⟨⟨s, rfl, hs⟩, x1⟩
    refine ⟨?_, x1⟩
    have : s = r := by
      rcases hs with ⟨k, hk, h1, h2, rfl⟩ | ⟨h1, rfl⟩
      · obtain rfl | rfl : k = 0 ∨ k = 1 := by omega
        · have g0 : a ≠ 0 := h2
          rw [hr]; simp_all
        · have g0 : a = 0 := h1 0 (by omega)
          rw [hr]; simp_all
      · have g0 : a = 0 := h1 0 (by omega)
        have g3 : b = 0 := h1 1 (by omega)
        rw [hr]; simp_all
    rw [this]
theorem chk4_or (a b c d : Int) : chk4 a b c d = if chk a ≠ 0 then chk a else if chk b ≠ 0 then chk b else if chk c ≠ 0 then chk c else chk d := by
  unfold chk4 ok4 chk
  cases okW a <;> cases okW b <;> cases okW c <;> cases okW d <;> rfl
set_option maxRecDepth 20000 in
set_option maxHeartbeats 4000000 in
theorem qcheck_any (a b c d : Int) (w : World) :
    Calls zP 118 #[zG #[J zq a, J zq b, J zq c, J zq d]] w fun e w' => e = zR (J zq (chk4 a b c d)) ∧ Ext w w' := by
  have HC : Hid (∀ v w', Calls zP 103 #[J zq v] w' fun e w'' => e = zR (J zq (chk v)) ∧ w'' = w') := check_any
  have HO : Hid (∀ g w', H4 w' g (J zq (chk a)) (J zq (chk b)) (J zq (chk c)) (J zq (chk d)) → Calls zP 43 #[.slice (some ⟨g, 0, none⟩) 4 4] w' fun e w'' => e = zR (J zq (chk4 a b c d)) ∧ Ext w' w'') := fun g w' h => cmpOr4 _ _ _ _ _ g w' h (chk4_or a b c d)
  generalize chk4 a b c d = R at *
  go_enter Tryz.func118, Tryz.ntmps118
  go_wp2_with fail
  have BB : Hid (H4 (w.alloc (.cells #[J zq a, J zq b, J zq c, J zq d] 124)) w.heap.size (J zq a) (J zq b) (J zq c) (J zq d)) := h4_at rfl
  go_region_held (fun w' => w'.cell? ⟨w.heap.size, 0, none⟩ = some (J zq a) ∧ w'.cell? ⟨w.heap.size, 1, none⟩ = some (J zq b) ∧ w'.cell? ⟨w.heap.size, 2, none⟩ = some (J zq c) ∧ w'.cell? ⟨w.heap.size, 3, none⟩ = some (J zq d)) (first | (go_keep; done) | skip) (first | (go_at_call 103; refine (HC.out _ _).mono ?_; rintro e wx ⟨rfl, hwx⟩; have hwy := hwx.symm; clear hwx; subst hwy) | (go_at_call 43; refine (HO.out _ _ (H4.drew (h4_at (by simp)))).mono ?_; rintro e w1 ⟨rfl, x1⟩; have Y1 : Ext (w.alloc (.cells #[J zq a, J zq b, J zq c, J zq d] 124)) w1 := Ext.trans xa x1; obtain ⟨s0, s1, s2, s3, s4, s5, s6, s7, s8⟩ := BB.out.ext Y1))
  all_goals
    have X1 : Ext w w1 := Ext.trans xa x1
    go_wp2_with fail
    go_ret
    exact ⟨rfl, X1⟩
set_option maxRecDepth 20000 in
set_option maxHeartbeats 4000000 in
theorem qCheck_any (a b c d : Int) (w : World) :
    Calls zP 104 #[zG #[J zq a, J zq b, J zq c, J zq d]] w fun e w' => e = zR (J zq (chk4 a b c d)) ∧ Ext w w' := by
  have HC : Hid _ := qcheck_any a b c d
  have HF : Hid _ := qof_any a b c d
  go_enter Tryz.func104, Tryz.ntmps104
  go_wp2_with fail
  refine (HF.out _).mono ?_
  rintro e w1 ⟨rfl, x1⟩
  go_wp2_with fail
  refine (HC.out _).mono ?_
  rintro e w2 ⟨rfl, x2⟩
  have X2 : Ext w w2 := (Ext.trans xa x1).trans x2
  go_wp2_with fail
  go_ret
  exact ⟨rfl, X2⟩
set_option maxRecDepth 20000 in
set_option maxHeartbeats 8000000 in
theorem throughT_c (a0 a1 a2 a3 a4 a5 a6 a7 a8 a9 a10 a11 Z0 Z1 Z2 Z3 r0 e0 r1 e1 r2 e2 r3 e3 : Int) (g : Nat) (w : World)
    (H0 : Hid (∀ w', Ext w w' → Calls zP 158 #[zG #[J zu a0, J zu a1, J zu a2], .pointer (some ⟨g, 0, none⟩)] w' fun e w'' => (∃ r, e = zR r ∧ IsW r Z0) ∧ Ext w' w''))
    (W0 : Hid (∀ t w', IsW t Z0 → Calls zP 145 #[t] w' fun e w'' => e = zR (.tuple #[J zq r0, J zq e0]) ∧ Ext w' w''))
    (H1 : Hid (∀ w', Ext w w' → Calls zP 158 #[zG #[J zu a3, J zu a4, J zu a5], .pointer (some ⟨g, 0, none⟩)] w' fun e w'' => (∃ r, e = zR r ∧ IsW r Z1) ∧ Ext w' w''))
    (W1 : Hid (∀ t w', IsW t Z1 → Calls zP 145 #[t] w' fun e w'' => e = zR (.tuple #[J zq r1, J zq e1]) ∧ Ext w' w''))
    (H2 : Hid (∀ w', Ext w w' → Calls zP 158 #[zG #[J zu a6, J zu a7, J zu a8], .pointer (some ⟨g, 0, none⟩)] w' fun e w'' => (∃ r, e = zR r ∧ IsW r Z2) ∧ Ext w' w''))
    (W2 : Hid (∀ t w', IsW t Z2 → Calls zP 145 #[t] w' fun e w'' => e = zR (.tuple #[J zq r2, J zq e2]) ∧ Ext w' w''))
    (H3 : Hid (∀ w', Ext w w' → Calls zP 158 #[zG #[J zu a9, J zu a10, J zu a11], .pointer (some ⟨g, 0, none⟩)] w' fun e w'' => (∃ r, e = zR r ∧ IsW r Z3) ∧ Ext w' w''))
    (W3 : Hid (∀ t w', IsW t Z3 → Calls zP 145 #[t] w' fun e w'' => e = zR (.tuple #[J zq r3, J zq e3]) ∧ Ext w' w'')) :
    Calls zP 114 #[zG #[J zu a0, J zu a1, J zu a2, J zu a3, J zu a4, J zu a5, J zu a6, J zu a7, J zu a8, J zu a9, J zu a10, J zu a11], .func (.func 158) #[] #[.pointer (some ⟨g, 0, none⟩)]] w fun e w' => e = zR (thr4 r0 e0 r1 e1 r2 e2 r3 e3) ∧ Ext w w' := by
  have i0 : ∀ w : World, (Instr.index 154 (zG #[J zu a0, J zu a1, J zu a2, J zu a3, J zu a4, J zu a5, J zu a6, J zu a7, J zu a8, J zu a9, J zu a10, J zu a11]) (J zq 0)).run zP w = .ok (zG #[J zu a0, J zu a1, J zu a2]) w := fun _ => by kernel_rfl
  have i1 : ∀ w : World, (Instr.index 154 (zG #[J zu a0, J zu a1, J zu a2, J zu a3, J zu a4, J zu a5, J zu a6, J zu a7, J zu a8, J zu a9, J zu a10, J zu a11]) (J zq 1)).run zP w = .ok (zG #[J zu a3, J zu a4, J zu a5]) w := fun _ => by kernel_rfl
  have i2 : ∀ w : World, (Instr.index 154 (zG #[J zu a0, J zu a1, J zu a2, J zu a3, J zu a4, J zu a5, J zu a6, J zu a7, J zu a8, J zu a9, J zu a10, J zu a11]) (J zq 2)).run zP w = .ok (zG #[J zu a6, J zu a7, J zu a8]) w := fun _ => by kernel_rfl
  have i3 : ∀ w : World, (Instr.index 154 (zG #[J zu a0, J zu a1, J zu a2, J zu a3, J zu a4, J zu a5, J zu a6, J zu a7, J zu a8, J zu a9, J zu a10, J zu a11]) (J zq 3)).run zP w = .ok (zG #[J zu a9, J zu a10, J zu a11]) w := fun _ => by kernel_rfl
  obtain ⟨R, hR⟩ : ∃ R, thr4 r0 e0 r1 e1 r2 e2 r3 e3 = R := ⟨_, rfl⟩
  rw [hR]
  have T0 : Hid (e0 ≠ 0 → R = .tuple #[zG #[J zq 0, J zq 0, J zq 0, J zq 0], J zq e0]) := fun a => by rw [← hR]; unfold thr4; rw [if_neg a]
  have T1 : Hid (e0 = 0 → e1 ≠ 0 → R = .tuple #[zG #[J zq 0, J zq 0, J zq 0, J zq 0], J zq e1]) := fun a b => by rw [← hR]; unfold thr4; rw [if_pos a, if_neg b]
  have T2 : Hid (e0 = 0 → e1 = 0 → e2 ≠ 0 → R = .tuple #[zG #[J zq 0, J zq 0, J zq 0, J zq 0], J zq e2]) := fun a b c => by rw [← hR]; unfold thr4; rw [if_pos a, if_pos b, if_neg c]
  have T3 : Hid (e0 = 0 → e1 = 0 → e2 = 0 → e3 ≠ 0 → R = .tuple #[zG #[J zq 0, J zq 0, J zq 0, J zq 0], J zq e3]) := fun a b c d => by rw [← hR]; unfold thr4; rw [if_pos a, if_pos b, if_pos c, if_neg d]
  have T4 : Hid (e0 = 0 → e1 = 0 → e2 = 0 → e3 = 0 → R = .tuple #[zG #[J zq r0, J zq r1, J zq r2, J zq r3], J zq 0]) := fun a b c d => by rw [← hR]; unfold thr4; rw [if_pos a, if_pos b, if_pos c, if_pos d]
  clear hR
  go_enter Tryz.func114, Tryz.ntmps114
  go_wp2_with fail
  refine wp_loop_rounds 5 ?_
  rw [rounds_succ]
  go_wp2_with fail
  refine (H0.out _ xa).mono ?_
  rintro e v0 ⟨⟨t0, rfl, h0⟩, y0⟩
  have MV0 : Hid (H4 v0 (w.heap.size + 1 + 1) (J zq 0) (J zq 0) (J zq 0) (J zq 0)) := (H4.alloc (h4_at (by simp)) _).ext y0
  have RV0 : Hid (H4 v0 (w.heap.size + 1) (J zq 0) (J zq 0) (J zq 0) (J zq 0)) := (H4.alloc (H4.alloc (h4_at (by simp)) _) _).ext y0
  have XV0 : Ext w v0 := Ext.trans xa y0
  clear y0
  go_wp2_with fail
  refine (W0.out _ _ h0).mono ?_
  rintro e w1 ⟨rfl, x1⟩
  have MM1 : Hid (H4 w1 (w.heap.size + 1 + 1) (J zq 0) (J zq 0) (J zq 0) (J zq 0)) := MV0.out.ext x1
  have RR1 : Hid (H4 w1 (w.heap.size + 1) (J zq 0) (J zq 0) (J zq 0) (J zq 0)) := RV0.out.ext x1
  have X1 : Ext w w1 := XV0.trans x1
  clear x1 XV0
  obtain ⟨m0, m1, m2, m3, m4, m5, m6, m7, m8⟩ := MM1.out
  obtain ⟨q0, q1, q2, q3, q4, q5, q6, q7, q8⟩ := RR1.out
  by_cases k0 : e0 = 0
  case neg =>
    have n0 : (e0 != 0) = true := by simpa using k0
    have hR := T0.out k0
    subst hR
    clear T0 T1 T2 T3 T4
    go_wp2_with fail
    exact bodyPost_ret (v := .tuple #[zG #[J zq 0, J zq 0, J zq 0, J zq 0], J zq e0]) (by simp [results, Tryz.results114, go_sem, q0, q1, q2, q3]) rfl ⟨rfl, xa⟩
  subst k0
  go_wp2_with fail
  rw [rounds_succ]
  go_wp2_with fail
  refine (H1.out _ xa).mono ?_
  rintro e v1 ⟨⟨t1, rfl, h1⟩, y1⟩
  have MV1 : Hid (H4 v1 (w.heap.size + 1 + 1) (J zq r0) (J zq 0) (J zq 0) (J zq 0)) := (H4.alloc (H4.set0 MM1.out _) _).ext y1
  have RV1 : Hid (H4 v1 (w.heap.size + 1) (J zq 0) (J zq 0) (J zq 0) (J zq 0)) := (H4.alloc (H4.far RR1.out (by omega)) _).ext y1
  have XV1 : Ext w v1 := Ext.trans xa y1
  clear y1
  clear m0 m1 m2 m3 m4 m5 m6 m7 m8 q0 q1 q2 q3 q4 q5 q6 q7 q8 X1
  go_wp2_with fail
  refine (W1.out _ _ h1).mono ?_
  rintro e w2 ⟨rfl, x2⟩
  have MM2 : Hid (H4 w2 (w.heap.size + 1 + 1) (J zq r0) (J zq 0) (J zq 0) (J zq 0)) := MV1.out.ext x2
  have RR2 : Hid (H4 w2 (w.heap.size + 1) (J zq 0) (J zq 0) (J zq 0) (J zq 0)) := RV1.out.ext x2
  have X2 : Ext w w2 := XV1.trans x2
  clear x2 XV1
  obtain ⟨m0, m1, m2, m3, m4, m5, m6, m7, m8⟩ := MM2.out
  obtain ⟨q0, q1, q2, q3, q4, q5, q6, q7, q8⟩ := RR2.out
  by_cases k1 : e1 = 0
  case neg =>
    have n1 : (e1 != 0) = true := by simpa using k1
    have hR := T1.out (by first | exact rfl | trivial) k1
    subst hR
    clear T0 T1 T2 T3 T4
    go_wp2_with fail
    exact bodyPost_ret (v := .tuple #[zG #[J zq 0, J zq 0, J zq 0, J zq 0], J zq e1]) (by simp [results, Tryz.results114, go_sem, q0, q1, q2, q3]) rfl ⟨rfl, xa⟩
  subst k1
  go_wp2_with fail
  rw [rounds_succ]
  go_wp2_with fail
  refine (H2.out _ xa).mono ?_
  rintro e v2 ⟨⟨t2, rfl, h2⟩, y2⟩
  have MV2 : Hid (H4 v2 (w.heap.size + 1 + 1) (J zq r0) (J zq r1) (J zq 0) (J zq 0)) := (H4.alloc (H4.set1 MM2.out _) _).ext y2
  have RV2 : Hid (H4 v2 (w.heap.size + 1) (J zq 0) (J zq 0) (J zq 0) (J zq 0)) := (H4.alloc (H4.far RR2.out (by omega)) _).ext y2
  have XV2 : Ext w v2 := Ext.trans xa y2
  clear y2
  clear m0 m1 m2 m3 m4 m5 m6 m7 m8 q0 q1 q2 q3 q4 q5 q6 q7 q8 X2
  go_wp2_with fail
  refine (W2.out _ _ h2).mono ?_
  rintro e w3 ⟨rfl, x3⟩
  have MM3 : Hid (H4 w3 (w.heap.size + 1 + 1) (J zq r0) (J zq r1) (J zq 0) (J zq 0)) := MV2.out.ext x3
  have RR3 : Hid (H4 w3 (w.heap.size + 1) (J zq 0) (J zq 0) (J zq 0) (J zq 0)) := RV2.out.ext x3
  have X3 : Ext w w3 := XV2.trans x3
  clear x3 XV2
  obtain ⟨m0, m1, m2, m3, m4, m5, m6, m7, m8⟩ := MM3.out
  obtain ⟨q0, q1, q2, q3, q4, q5, q6, q7, q8⟩ := RR3.out
  by_cases k2 : e2 = 0
  case neg =>
    have n2 : (e2 != 0) = true := by simpa using k2
    have hR := T2.out (by first | exact rfl | trivial) (by first | exact rfl | trivial) k2
    subst hR
    clear T0 T1 T2 T3 T4
    go_wp2_with fail
    exact bodyPost_ret (v := .tuple #[zG #[J zq 0, J zq 0, J zq 0, J zq 0], J zq e2]) (by simp [results, Tryz.results114, go_sem, q0, q1, q2, q3]) rfl ⟨rfl, xa⟩
  subst k2
  go_wp2_with fail
  rw [rounds_succ]
  go_wp2_with fail
  refine (H3.out _ xa).mono ?_
  rintro e v3 ⟨⟨t3, rfl, h3⟩, y3⟩
  have MV3 : Hid (H4 v3 (w.heap.size + 1 + 1) (J zq r0) (J zq r1) (J zq r2) (J zq 0)) := (H4.alloc (H4.set2 MM3.out _) _).ext y3
  have RV3 : Hid (H4 v3 (w.heap.size + 1) (J zq 0) (J zq 0) (J zq 0) (J zq 0)) := (H4.alloc (H4.far RR3.out (by omega)) _).ext y3
  have XV3 : Ext w v3 := Ext.trans xa y3
  clear y3
  clear m0 m1 m2 m3 m4 m5 m6 m7 m8 q0 q1 q2 q3 q4 q5 q6 q7 q8 X3
  go_wp2_with fail
  refine (W3.out _ _ h3).mono ?_
  rintro e w4 ⟨rfl, x4⟩
  have MM4 : Hid (H4 w4 (w.heap.size + 1 + 1) (J zq r0) (J zq r1) (J zq r2) (J zq 0)) := MV3.out.ext x4
  have RR4 : Hid (H4 w4 (w.heap.size + 1) (J zq 0) (J zq 0) (J zq 0) (J zq 0)) := RV3.out.ext x4
  have X4 : Ext w w4 := XV3.trans x4
  clear x4 XV3
  obtain ⟨m0, m1, m2, m3, m4, m5, m6, m7, m8⟩ := MM4.out
  obtain ⟨q0, q1, q2, q3, q4, q5, q6, q7, q8⟩ := RR4.out
  by_cases k3 : e3 = 0
  case neg =>
    have n3 : (e3 != 0) = true := by simpa using k3
    have hR := T3.out (by first | exact rfl | trivial) (by first | exact rfl | trivial) (by first | exact rfl | trivial) k3
    subst hR
    clear T0 T1 T2 T3 T4
    go_wp2_with fail
    exact bodyPost_ret (v := .tuple #[zG #[J zq 0, J zq 0, J zq 0, J zq 0], J zq e3]) (by simp [results, Tryz.results114, go_sem, q0, q1, q2, q3]) rfl ⟨rfl, xa⟩
  subst k3
  go_wp2_with fail
  rw [rounds_succ]
  go_wp2_with fail
  have hR := T4.out (by first | exact rfl | trivial) (by first | exact rfl | trivial) (by first | exact rfl | trivial) (by first | exact rfl | trivial)
  subst hR
  exact bodyPost_ret (v := .tuple #[zG #[J zq r0, J zq r1, J zq r2, J zq r3], J zq 0]) (by simp [results, Tryz.results114, go_sem, q0, q1, q2, q3]) rfl ⟨rfl, xa⟩
theorem throughT_any (a0 a1 a2 a3 a4 a5 a6 a7 a8 a9 a10 a11 Z0 Z1 Z2 Z3 : Int) (g : Nat) (w : World) (z0 : InW Z0) (z1 : InW Z1) (z2 : InW Z2) (z3 : InW Z3)
    (H0 : ∀ w', Ext w w' → Calls zP 158 #[zG #[J zu a0, J zu a1, J zu a2], .pointer (some ⟨g, 0, none⟩)] w' fun e w'' => (∃ r, e = zR r ∧ IsW r Z0) ∧ Ext w' w'')
    (H1 : ∀ w', Ext w w' → Calls zP 158 #[zG #[J zu a3, J zu a4, J zu a5], .pointer (some ⟨g, 0, none⟩)] w' fun e w'' => (∃ r, e = zR r ∧ IsW r Z1) ∧ Ext w' w'')
    (H2 : ∀ w', Ext w w' → Calls zP 158 #[zG #[J zu a6, J zu a7, J zu a8], .pointer (some ⟨g, 0, none⟩)] w' fun e w'' => (∃ r, e = zR r ∧ IsW r Z2) ∧ Ext w' w'')
    (H3 : ∀ w', Ext w w' → Calls zP 158 #[zG #[J zu a9, J zu a10, J zu a11], .pointer (some ⟨g, 0, none⟩)] w' fun e w'' => (∃ r, e = zR r ∧ IsW r Z3) ∧ Ext w' w'') :
    Calls zP 114 #[zG #[J zu a0, J zu a1, J zu a2, J zu a3, J zu a4, J zu a5, J zu a6, J zu a7, J zu a8, J zu a9, J zu a10, J zu a11], .func (.func 158) #[] #[.pointer (some ⟨g, 0, none⟩)]] w fun e w' => e = zR (qres Z0 Z1 Z2 Z3) ∧ Ext w w' := by
  rw [← thr4_fit]
  unfold thr4
  have V0 : ∀ t w', IsW t Z0 → _ := fun t w' ht => wordw_any Z0 t w' ht z0
  have V1 : ∀ t w', IsW t Z1 → _ := fun t w' ht => wordw_any Z1 t w' ht z1
  have V2 : ∀ t w', IsW t Z2 → _ := fun t w' ht => wordw_any Z2 t w' ht z2
  have V3 : ∀ t w', IsW t Z3 → _ := fun t w' ht => wordw_any Z3 t w' ht z3
  exact throughT_c _ _ _ _ _ _ _ _ _ _ _ _ _ _ _ _ _ _ _ _ _ _ _ _ g w H0 V0 H1 V1 H2 V2 H3 V3
theorem H12.set12 {w : World} {b : Nat} {v0 v1 v2 v3 v4 v5 v6 v7 v8 v9 v10 v11 : Value} (h : H12 w b v0 v1 v2 v3 v4 v5 v6 v7 v8 v9 v10 v11) (y0 y1 y2 y3 y4 y5 y6 y7 y8 y9 y10 y11 : Value) : H12 ((((((((((((w.setCell ⟨b, 0, none⟩ y0).setCell ⟨b, 1, none⟩ y1).setCell ⟨b, 2, none⟩ y2).setCell ⟨b, 3, none⟩ y3).setCell ⟨b, 4, none⟩ y4).setCell ⟨b, 5, none⟩ y5).setCell ⟨b, 6, none⟩ y6).setCell ⟨b, 7, none⟩ y7).setCell ⟨b, 8, none⟩ y8).setCell ⟨b, 9, none⟩ y9).setCell ⟨b, 10, none⟩ y10).setCell ⟨b, 11, none⟩ y11) b y0 y1 y2 y3 y4 y5 y6 y7 y8 y9 y10 y11 := by
  obtain ⟨c0, c1, c2, c3, c4, c5, c6, c7, c8, c9, c10, c11, f0, f1, f2, f3, f4, f5, f6, f7, f8, f9, f10, f11, hb⟩ := h
  refine ⟨?_, ?_, ?_, ?_, ?_, ?_, ?_, ?_, ?_, ?_, ?_, ?_, ?_, ?_, ?_, ?_, ?_, ?_, ?_, ?_, ?_, ?_, ?_, ?_, ?_⟩ <;> simp [go_sem, c0, c1, c2, c3, c4, c5, c6, c7, c8, c9, c10, c11, f0, f1, f2, f3, f4, f5, f6, f7, f8, f9, f10, f11, hb]
theorem ext_new12 {X w' : World} {v0 v1 v2 v3 v4 v5 v6 v7 v8 v9 v10 v11 : Value} {T : TypeId} (h : Ext (X.alloc (.cells #[v0, v1, v2, v3, v4, v5, v6, v7, v8, v9, v10, v11] T)) w') : Hid (H12 w' X.heap.size v0 v1 v2 v3 v4 v5 v6 v7 v8 v9 v10 v11) := (h12_at rfl).ext h
theorem ext_new12d {X w' : World} {v0 v1 v2 v3 v4 v5 v6 v7 v8 v9 v10 v11 : Value} {T : TypeId} (h : Ext (X.alloc (.cells #[v0, v1, v2, v3, v4, v5, v6, v7, v8, v9, v10, v11] T)).drew w') : Hid (H12 w' X.heap.size v0 v1 v2 v3 v4 v5 v6 v7 v8 v9 v10 v11) := (H12.drew (h12_at rfl)).ext h
theorem hid12_ext {w w' : World} {b : Nat} {v0 v1 v2 v3 v4 v5 v6 v7 v8 v9 v10 v11 : Value} (h : Hid (H12 w b v0 v1 v2 v3 v4 v5 v6 v7 v8 v9 v10 v11)) (hx : Ext w w') : Hid (H12 w' b v0 v1 v2 v3 v4 v5 v6 v7 v8 v9 v10 v11) := h.out.ext hx
def Part12 (w wx : World) (g : Nat) (z0 z1 z2 z3 : Int) : Prop := ∃ m0 m1 m2 m3 m4 m5 m6 m7 m8 m9 m10 m11 : Int, H12 wx g (J zu m0) (J zu m1) (J zu m2) (J zu m3) (J zu m4) (J zu m5) (J zu m6) (J zu m7) (J zu m8) (J zu m9) (J zu m10) (J zu m11) ∧ IsF (zG #[J zu m0, J zu m1, J zu m2, J zu m3, J zu m4, J zu m5, J zu m6, J zu m7, J zu m8, J zu m9, J zu m10, J zu m11]) z0 z1 z2 z3 ∧ Ext w wx ∧ w.heap.size ≤ g
theorem part12_a {w wR : World} {m0 m1 m2 m3 m4 m5 m6 m7 m8 m9 m10 m11 z0 z1 z2 z3 : Int} {T : TypeId} (hR : Hid (IsF (zG #[J zu m0, J zu m1, J zu m2, J zu m3, J zu m4, J zu m5, J zu m6, J zu m7, J zu m8, J zu m9, J zu m10, J zu m11]) z0 z1 z2 z3)) (y : Ext w wR) : Hid (Part12 w (wR.alloc (.cells #[J zu m0, J zu m1, J zu m2, J zu m3, J zu m4, J zu m5, J zu m6, J zu m7, J zu m8, J zu m9, J zu m10, J zu m11] T)) wR.heap.size z0 z1 z2 z3) :=
  ⟨_, _, _, _, _, _, _, _, _, _, _, _, h12_at rfl, hR.out, y.alloc _, y.size⟩
theorem part12_b {w wR : World} {g : Nat} {v0 v1 v2 v3 v4 v5 v6 v7 v8 v9 v10 v11 : Value} {m0 m1 m2 m3 m4 m5 m6 m7 m8 m9 m10 m11 z0 z1 z2 z3 : Int} (hN : Hid (H12 wR g v0 v1 v2 v3 v4 v5 v6 v7 v8 v9 v10 v11)) (hR : Hid (IsF (zG #[J zu m0, J zu m1, J zu m2, J zu m3, J zu m4, J zu m5, J zu m6, J zu m7, J zu m8, J zu m9, J zu m10, J zu m11]) z0 z1 z2 z3)) (y : Ext w wR) (hg : w.heap.size ≤ g) :
    Hid (Part12 w ((((((((((((wR.setCell ⟨g, 0, none⟩ (J zu m0)).setCell ⟨g, 1, none⟩ (J zu m1)).setCell ⟨g, 2, none⟩ (J zu m2)).setCell ⟨g, 3, none⟩ (J zu m3)).setCell ⟨g, 4, none⟩ (J zu m4)).setCell ⟨g, 5, none⟩ (J zu m5)).setCell ⟨g, 6, none⟩ (J zu m6)).setCell ⟨g, 7, none⟩ (J zu m7)).setCell ⟨g, 8, none⟩ (J zu m8)).setCell ⟨g, 9, none⟩ (J zu m9)).setCell ⟨g, 10, none⟩ (J zu m10)).setCell ⟨g, 11, none⟩ (J zu m11)) g z0 z1 z2 z3) :=
  ⟨_, _, _, _, _, _, _, _, _, _, _, _, hN.out.set12 _ _ _ _ _ _ _ _ _ _ _ _, hR.out, (((((((((((y.set hg _).set hg _).set hg _).set hg _).set hg _).set hg _).set hg _).set hg _).set hg _).set hg _).set hg _).set hg _, hg⟩
theorem isF_keep {a0 a1 a2 a3 a4 a5 a6 a7 a8 a9 a10 a11 z0 z1 z2 z3 : Int} (h : IsW (zG #[J zu a0, J zu a1, J zu a2]) z0 ∧ IsW (zG #[J zu a3, J zu a4, J zu a5]) z1 ∧ IsW (zG #[J zu a6, J zu a7, J zu a8]) z2 ∧ IsW (zG #[J zu a9, J zu a10, J zu a11]) z3) : Hid (IsF (zG #[J zu a0, J zu a1, J zu a2, J zu a3, J zu a4, J zu a5, J zu a6, J zu a7, J zu a8, J zu a9, J zu a10, J zu a11]) z0 z1 z2 z3) := ⟨_, _, _, _, _, _, _, _, _, _, _, _, rfl, h⟩
set_option maxHeartbeats 2000000 in
theorem turned1_raw (a0 a1 a2 b0 b1 b2 z : Int) (g : Nat) (w : World) (GB : H3 w g (J zu b0) (J zu b1) (J zu b2))
    (HO : Hid (∀ w', Calls zP 159 #[zG #[J zu a0, J zu a1, J zu a2], zG #[J zu b0, J zu b1, J zu b2]] w' fun e w'' => (∃ r, e = zR r ∧ IsW r z) ∧ Ext w' w'')) :
    Calls zP 158 #[zG #[J zu a0, J zu a1, J zu a2], .pointer (some ⟨g, 0, none⟩)] w fun e w' => (∃ r, e = zR r ∧ IsW r z) ∧ Ext w w' := by
  have hg := GB.2.2.2.2.2.2
  have GG := (GB.alloc (.cells #[J zu a0, J zu a1, J zu a2] 152)).alloc (.cells #[J zu 0, J zu 0, J zu 0] 152)
  obtain ⟨g0, g1, g2, g3, g4, g5, g6⟩ := GG
  clear GB
  go_enter Tryz.func158, Tryz.ntmps158
  go_wp2_with fail
  refine (HO.out _).mono ?_
  rintro e w1 ⟨⟨r, rfl, s0, s1, s2, rfl, hr⟩, x1⟩
  have HR : Hid _ := hr
  clear hr
  have X1 : Ext w w1 := Ext.trans xa x1
  obtain ⟨c0, c1, c2, c3, c4, c5, c6⟩ : H3 w1 (w.heap.size + 1) _ _ _ := (h3_at (by simp)).ext x1
  clear x1 g0 g1 g2 g3 g4 g5 g6
  go_wp2_with fail
  exact bodyPost_ret (v := zG #[J zu s0, J zu s1, J zu s2]) (by simp [results, Tryz.results158, go_sem, c0, c1, c2]) rfl ⟨⟨_, rfl, _, _, _, rfl, HR.out⟩, xa⟩
theorem turned1_any (p : Int) (n : Nat) (a0 a1 a2 b0 b1 b2 : Int) (g : Nat) (w : World) (hu : IsW (zG #[J zu a0, J zu a1, J zu a2]) p) (hv : IsW (zG #[J zu b0, J zu b1, J zu b2]) n) (GB : H3 w g (J zu b0) (J zu b1) (J zu b2)) (h0 : 0 < n) (hn : n < 4951760157141521099596496896) (hp : p.natAbs / n < 70368744177664) (hp2 : p.natAbs < 98079714615416886934934209737619787751599303819750539264) :
    Calls zP 158 #[zG #[J zu a0, J zu a1, J zu a2], .pointer (some ⟨g, 0, none⟩)] w fun e w' => (∃ r, e = zR r ∧ IsW r (nearI p n)) ∧ Ext w w' := by
  refine turned1_raw a0 a1 a2 b0 b1 b2 _ g w GB (fun w' => ?_)
  refine (overw_any p n _ _ w' hu hv h0 hn hp hp2).mono ?_
  rintro e w1 ⟨⟨r, rfl, k, k1, k2, _⟩, x1⟩
  rw [IsNear.unique (by omega) k2 (nearI_spec p n (by omega))] at k1
  exact ⟨⟨r, rfl, k1⟩, x1⟩
set_option maxRecDepth 20000 in
set_option maxHeartbeats 8000000 in
theorem turned_raw (a b c d x y z nb nc nd N z0 z1 z2 z3 T0 T1 T2 T3 E0 E1 E2 E3 ee : Int) (w : World)
    (HS : Hid (∀ w', Calls zP 133 #[zG #[J zq a, J zq b, J zq c, J zq d]] w' fun e w'' => (∃ r, e = zR r ∧ IsW r N) ∧ Ext w' w''))
    (HC : Hid (∀ w', Calls zP 109 #[zG #[J zq a, J zq b, J zq c, J zq d]] w' fun e w'' => e = zR (zG #[J zq a, J zq nb, J zq nc, J zq nd]) ∧ Ext w' w''))
    (HP : Hid (∀ w', Calls zP 115 #[zG #[J zq 0, J zq x, J zq y, J zq z], zG #[J zq a, J zq nb, J zq nc, J zq nd], .func (.func 116) #[] #[]] w' fun e w'' => (∃ r, e = zR r ∧ IsF r z0 z1 z2 z3) ∧ Ext w' w''))
    (HX : Hid (∀ v w', IsF v z0 z1 z2 z3 → Calls zP 157 #[zG #[J zq a, J zq b, J zq c, J zq d], v, .func (.func 155) #[] #[]] w' fun e w'' => (∃ r, e = zR r ∧ IsF r T0 T1 T2 T3) ∧ Ext w' w''))
    (HT : Hid (∀ g b0 b1 b2 v w', IsF v T0 T1 T2 T3 → IsW (zG #[J zu b0, J zu b1, J zu b2]) N → H3 w' g (J zu b0) (J zu b1) (J zu b2) → Calls zP 114 #[v, .func (.func 158) #[] #[.pointer (some ⟨g, 0, none⟩)]] w' fun e w'' => e = zR (.tuple #[zG #[J zq E0, J zq E1, J zq E2, J zq E3], J zq ee]) ∧ Ext w' w'')) :
    Calls zP 119 #[zG #[J zq a, J zq b, J zq c, J zq d], zG #[J zq x, J zq y, J zq z]] w fun e w' => e = zR (.tuple #[zG #[J zq E0, J zq E1, J zq E2, J zq E3], J zq ee]) ∧ Ext w w' := by
  go_enter Tryz.func119, Tryz.ntmps119
  go_wp2_with fail
  refine (HS.out _).mono ?_
  rintro e w1 ⟨⟨uN, rfl, b0, b1, b2, rfl, hN0⟩, x1⟩
  have HN : Hid (IsW (zG #[J zu b0, J zu b1, J zu b2]) N) := ⟨_, _, _, rfl, hN0⟩
  clear hN0
  have QB1 : Hid (H4 w1 w.heap.size (J zq a) (J zq b) (J zq c) (J zq d)) := (H4.alloc (H4.alloc (h4_at rfl) _) _).ext x1
  have VB1 : Hid (H3 w1 (w.heap.size + 1) (J zq x) (J zq y) (J zq z)) := (H3.alloc (h3_at (by simp)) _).ext x1
  have RB1 : Hid (H4 w1 (w.heap.size + 1 + 1) (J zq 0) (J zq 0) (J zq 0) (J zq 0)) := (h4_at (by simp)).ext x1
  have X1 : Ext w w1 := Ext.trans xa x1
  clear x1
  have QB : Hid (H4 (w1.alloc (.cells #[J zu b0, J zu b1, J zu b2] 152)) w.heap.size (J zq a) (J zq b) (J zq c) (J zq d)) := QB1.out.alloc _
  have VB : Hid (H3 (w1.alloc (.cells #[J zu b0, J zu b1, J zu b2] 152)) (w.heap.size + 1) (J zq x) (J zq y) (J zq z)) := VB1.out.alloc _
  have RB : Hid (H4 (w1.alloc (.cells #[J zu b0, J zu b1, J zu b2] 152)) (w.heap.size + 1 + 1) (J zq 0) (J zq 0) (J zq 0) (J zq 0)) := RB1.out.alloc _
  have NB : Hid (H3 (w1.alloc (.cells #[J zu b0, J zu b1, J zu b2] 152)) w1.heap.size (J zu b0) (J zu b1) (J zu b2)) := h3_at rfl
  have XB : Ext w (w1.alloc (.cells #[J zu b0, J zu b1, J zu b2] 152)) := X1.alloc _
  clear QB1 VB1 RB1 X1
  obtain ⟨s0, s1, s2, s3, s4, s5, s6, s7, s8⟩ := QB.out
  obtain ⟨t0, t1, t2, t3, t4, t5, t6⟩ := VB.out
  go_upto_region 2 with fail
  generalize hgN : w1.heap.size = gN at *
  generalize (w1.alloc (.cells #[J zu b0, J zu b1, J zu b2] 152)) = wB at *
  have nBa := Nat.ne_of_lt s8
  have nBb := (Nat.ne_of_lt s8).symm
  have nBc := Nat.ne_of_lt t6
  have nBd := (Nat.ne_of_lt t6).symm
  go_cut [7] (fun s7 wx => ∃ gp, s7 = .pointer (some ⟨gp, 0, none⟩) ∧ Hid (Part12 wB wx gp z0 z1 z2 z3))
  case first =>
    go_region_held (fun w' => w'.cell? ⟨w.heap.size, 0, none⟩ = some (J zq a) ∧ w'.cell? ⟨w.heap.size, 1, none⟩ = some (J zq b) ∧ w'.cell? ⟨w.heap.size, 2, none⟩ = some (J zq c) ∧ w'.cell? ⟨w.heap.size, 3, none⟩ = some (J zq d) ∧ w'.cell? ⟨w.heap.size + 1, 0, none⟩ = some (J zq x) ∧ w'.cell? ⟨w.heap.size + 1, 1, none⟩ = some (J zq y) ∧ w'.cell? ⟨w.heap.size + 1, 2, none⟩ = some (J zq z)) (first | (go_keep; done) | skip) (first | (go_at_call 109; refine (HC.out _).mono ?_; rintro e wC ⟨rfl, xC⟩; have yC : Ext wB wC := Ext.trans xa xC; obtain ⟨s0, s1, s2, s3, s4, s5, s6, s7, s8⟩ := QB.out.ext yC; obtain ⟨t0, t1, t2, t3, t4, t5, t6⟩ := VB.out.ext yC; have nCa := Nat.ne_of_lt s8; have nCb := (Nat.ne_of_lt s8).symm; have nCc := Nat.ne_of_lt t6; have nCd := (Nat.ne_of_lt t6).symm; first | ((with_reducible have hNC := ext_new12d xC); obtain ⟨n0, n1, n2, n3, n4, n5, n6, n7, n8, n9, n10, n11, n12, n13, n14, n15, n16, n17, n18, n19, n20, n21, n22, n23, n24⟩ := hNC.out) | ((with_reducible have hNC := ext_new12 xC); obtain ⟨n0, n1, n2, n3, n4, n5, n6, n7, n8, n9, n10, n11, n12, n13, n14, n15, n16, n17, n18, n19, n20, n21, n22, n23, n24⟩ := hNC.out) | skip) | (go_at_call 115; refine (HP.out _).mono ?_; rintro e wP ⟨⟨uP, rfl, m0, m1, m2, m3, m4, m5, m6, m7, m8, m9, m10, m11, rfl, hP⟩, xP⟩; have HF := isF_keep hP; clear hP; have yP : Ext wB wP := Ext.trans xa xP; obtain ⟨s0, s1, s2, s3, s4, s5, s6, s7, s8⟩ := QB.out.ext yP; obtain ⟨t0, t1, t2, t3, t4, t5, t6⟩ := VB.out.ext yP; have nPa := Nat.ne_of_lt s8; have nPb := (Nat.ne_of_lt s8).symm; have nPc := Nat.ne_of_lt t6; have nPd := (Nat.ne_of_lt t6).symm; first | ((with_reducible have hNP := hid12_ext hNC xP); obtain ⟨n0, n1, n2, n3, n4, n5, n6, n7, n8, n9, n10, n11, n12, n13, n14, n15, n16, n17, n18, n19, n20, n21, n22, n23, n24⟩ := hNP.out) | ((with_reducible have hNP := ext_new12d xP); obtain ⟨n0, n1, n2, n3, n4, n5, n6, n7, n8, n9, n10, n11, n12, n13, n14, n15, n16, n17, n18, n19, n20, n21, n22, n23, n24⟩ := hNP.out) | ((with_reducible have hNP := ext_new12 xP); obtain ⟨n0, n1, n2, n3, n4, n5, n6, n7, n8, n9, n10, n11, n12, n13, n14, n15, n16, n17, n18, n19, n20, n21, n22, n23, n24⟩ := hNP.out) | skip))
    all_goals
      go_wp2_with fail
      go_meet
      first
        | with_reducible exact ⟨_, rfl, part12_a HF yP⟩
        | ((with_reducible refine ⟨_, rfl, part12_b hNP HF yP ?_⟩) <;> (have q1 := yC.size; omega))
  case rest =>
    obtain ⟨gp, rfl, hO⟩ := hcut
    obtain ⟨m0, m1, m2, m3, m4, m5, m6, m7, m8, m9, m10, m11, hH, hI, hE, hG⟩ := hO.out
    have HI : Hid (IsF (zG #[J zu m0, J zu m1, J zu m2, J zu m3, J zu m4, J zu m5, J zu m6, J zu m7, J zu m8, J zu m9, J zu m10, J zu m11]) z0 z1 z2 z3) := hI
    have XE : Hid (Ext wB wc) := hE
    have XW : Ext w wc := XB.trans hE
    clear hI hO hE nBa nBb nBc nBd s0 s1 s2 s3 s4 s5 s6 s7 s8 t0 t1 t2 t3 t4 t5 t6
    obtain ⟨s0, s1, s2, s3, s4, s5, s6, s7, s8⟩ := QB.out.ext XE.out
    obtain ⟨n0, n1, n2, n3, n4, n5, n6, n7, n8, n9, n10, n11, n12, n13, n14, n15, n16, n17, n18, n19, n20, n21, n22, n23, n24⟩ := hH
    go_wp2_with fail
    refine (HX.out _ _ HI.out).mono ?_
    rintro e w2 ⟨⟨u2, rfl, h2⟩, x2⟩
    have H2 : Hid (IsF u2 _ _ _ _) := h2
    clear h2
    go_wp2_with fail
    refine (HT.out _ _ _ _ _ _ H2.out HN.out ((NB.out.ext XE.out).ext x2)).mono ?_
    rintro e w3 ⟨rfl, x3⟩
    have XW3 : Ext w w3 := (XW.trans x2).trans x3
    obtain ⟨r0, r1, r2, r3, r4, r5, r6, r7, r8⟩ := ((RB.out.ext XE.out).ext x2).ext x3
    clear n0 n1 n2 n3 n4 n5 n6 n7 n8 n9 n10 n11 n12 n13 n14 n15 n16 n17 n18 n19 n20 n21 n22 n23 x2 x3 XW s0 s1 s2 s3 s4 s5 s6 s7 s8
    go_wp2_with fail
    exact bodyPost_ret (v := .tuple #[zG #[J zq E0, J zq E1, J zq E2, J zq E3], J zq ee]) (by simp [results, Tryz.results119, go_sem, r0, r1, r2, r3]) rfl ⟨rfl, xa⟩
end Go.Proofs.YtoeecldhbabmbaaGreat
