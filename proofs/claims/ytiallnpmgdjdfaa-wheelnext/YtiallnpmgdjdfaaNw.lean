/- WheelNext: its walk. -/
import Derived.Test.YtiallnpmgdjdfaaNx
namespace Go.Proofs.Ytiallnpmgdjdfaa
open Go.RowKit
theorem due_less {S : List Tm} {s : Tm} {l : List Tm} (h : S = s :: l) : due (s.2.1 - 1) S = [] ∧ left (s.2.1 - 1) S = S := by
  subst h
  have := due_is (pre := []) (rest := s :: l) (now := s.2.1 - 1) (fun t ht => by simp at ht) (fun s' l' e => by cases e; omega)
  simpa using this
theorem due_at {S : List Tm} {s : Tm} {l : List Tm} (h : S = s :: l) : ∃ d, due s.2.1 S = s :: d := by
  subst h
  exact ⟨l.takeWhile (fun t => decide (t.2.1 ≤ s.2.1)), by simp [due]⟩
theorem due_len (now : Int) (S : List Tm) : (due now S).length + (left now S).length = S.length := by
  have := congrArg List.length (due_left now S)
  simpa using this
set_option maxRecDepth 20000 in
set_option maxHeartbeats 8000000 in
theorem next_law (a : Option Addr) (len cap : Nat) (D N A : Nat → Int) (w : World) (hl : len ≤ maxLen) (hc : Acts w a len D N A) :
    Calls Try.prog 5 #[.slice a len cap] w fun e w' => e = .returned (.bool true) ∧ Ext w w' := by
  have hl' : len ≤ 9223372036854775807 := by unfold maxLen at hl; omega
  have HW := new_any w
  have HN : Hid (∀ v w', Calls Try.prog 9 #[.int .i64 v] w' fun e w'' => e = .returned (.int .i64 v) ∧ w'' = w') := num_any
  have HWk : Hid (∀ w', Calls Try.prog 20 #[] w' fun e w'' => e = .returned (.bool true) ∧ Ext w' w'') := wakes_any
  have HA : Hid (Acts w a len D N A) := hc
  clear hc
  go_enter Try.func5, Try.ntmps5
  go_wp2_with (go_at_call 6; refine HW.mono ?_; rintro e w1 ⟨rfl, r1, x1⟩)
  go_loopw [4] (fun s4 wr => ∃ (k : Nat) (S : List Tm) (v : Value), k ≤ len ∧ k ≤ 60 ∧ s4 = .int .i64 k ∧ Hid (Kept w wr w.heap.size v S k)) (fun s4 _ => len - (intOf s4).toNat)
  case atStart => exact ⟨0, [], _, Nat.zero_le _, by omega, rfl, r1, x1, Nat.le_refl _, fun i hi => by simp [Value.ownBlock] at hi⟩
  case round =>
    obtain ⟨k, S, v, hk, hk60, rfl, hK⟩ := hrel
    clear HW r1 x1
    by_cases hlt : k < len
    · by_cases h60 : k < 60
      · have hA := HA.out.ext hK.out.2.1
        obtain ⟨b, off, ea, _⟩ := hA k hlt
        subst ea
        obtain ⟨y0, y1, y2, bD, bN, bA⟩ := hA.row hlt
        obtain ⟨id, hid, HI0⟩ := within_any (N k) 64 (by omega) (by omega)
        obtain ⟨q, hq, HQ0⟩ := within_any (A k) 1000 (by omega) (by omega)
        have HI : Hid (∀ w, Calls Try.prog 7 #[.int .i64 (N k), .int .i64 64] w fun e w' => e = .returned (.int .i64 id) ∧ w' = w) := HI0
        have HQ : Hid (∀ w, Calls Try.prog 7 #[.int .i64 (A k), .int .i64 1000] w fun e w' => e = .returned (.int .i64 q) ∧ w' = w) := HQ0
        have HSet := set_any (id : Int) (1 + (q : Int)) wr hK.out.1 (by omega) (by unfold okT; omega)
        obtain ⟨S1, hS1⟩ : ∃ S1, S1 = ins ((id : Int), 1 + (q : Int), (k : Int) + 1) (S.filter (fun t => t.1 ≠ (id : Int))) := ⟨_, rfl⟩
        have HS1 : Hid (S1 = ins ((id : Int), 1 + (q : Int), (k : Int) + 1) (S.filter (fun t => t.1 ≠ (id : Int)))) := hS1
        rw [← hS1] at HSet
        have HAll : Hid (∀ v1 w2, Wh w2 w.heap.size v1 S1 ((k : Int) + 1) → Calls Try.prog 12 #[.pointer (some ⟨w.heap.size, 0, none⟩)] w2 fun e w' => ∃ a cap, e = .returned (.slice a S1.length cap) ∧ w'.ownsRow w2.heap.size Ea 2 (.slice a S1.length cap) S1.length (flat2 S1) ∧ Ext w2 w') := fun v1 w2 h => all_sl w2 h (by omega)
        have HKs : Hid (∀ v1 w2, Wh w2 w.heap.size v1 S1 ((k : Int) + 1) → Goes w.heap.size v v1 wr w2 → Kept w w2 w.heap.size v1 S1 ((k : Int) + 1)) := fun v1 w2 h g => hK.out.goes g h
        clear hS1 HI0 HQ0 hA
        clear bD bN bA
        go_upto_region 8 with (go_at_call 7; refine (HI.out _).mono ?_; rintro e wx ⟨rfl, hwx⟩; have hwy := hwx.symm; clear hwx; subst hwy)
        go_upto_region 9 with (go_at_call 7; refine (HQ.out _).mono ?_; rintro e wx ⟨rfl, hwx⟩; have hwy := hwx.symm; clear hwx; subst hwy)
        go_upto_region 11 with (first | (go_at_call 19; refine HSet.mono ?_; rintro e w2 ⟨rfl, v1, h1, g1⟩) | (go_at_call 9; refine (HN.out _ _).mono ?_; rintro e wx ⟨rfl, hwx⟩; have hwy := hwx.symm; clear hwx; subst hwy))
        go_upto_region 12 with (go_at_call 12; refine (HAll.out _ _ h1).mono ?_; rintro e w3 ⟨ra, rc, rfl, hr, x3⟩)
        have HK3 : Hid (Kept w w3 w.heap.size v1 S1 ((k : Int) + 1)) := (HKs.out v1 w2 h1 g1).ext x3
        have HR : Hid (w3.ownsRow w2.heap.size Ea 2 (.slice ra S1.length rc) S1.length (flat2 S1)) := hr
        have HA3 : Hid (Acts w3 (some ⟨b, off, none⟩) len D N A) := HA.out.ext HK3.out.2.1
        obtain ⟨s, l, hsl⟩ : ∃ s l, S1 = s :: l := by rw [HS1.out]; exact ins_ne _ _
        have HSL : Hid (S1 = s :: l) := hsl
        have hln : 0 < S1.length := by rw [hsl]; simp
        obtain ⟨g, rfl, g0, g1'⟩ := row2 hr hln
        have hs0 : gt S1 0 = s := by rw [hsl]; rfl
        rw [hs0] at g1'
        have HB : Hid (S1.length ≤ 61) := by
          show _ ≤ _
          obtain ⟨xs, _, hw⟩ := HK3.out.1
          have := hw.2.2.2.2.1.2
          omega
        have hln60 : S1.length ≤ 61 := HB.out
        have heq := eqT id id (1 + (q : Int)) (1 + (q : Int))
        simp only [Nat.zero_mul, Nat.zero_add] at g0 g1'
        clear h1 g1 x3 hr HSet HAll HKs hK hsl HI HQ y0 y1 y2 hs0 g0
        go_wp2_with fail
        go_loopw [8, 9] (fun s8 s9 wi => ∃ j : Nat, j ≤ S1.length ∧ s9 = .int .i64 j ∧ s8 = .int .i64 (cnt id (S1.take j)) ∧ wi = w3 ∧ cnt id (S1.take j) ≤ j) (fun _ s9 _ => S1.length - (intOf s9).toNat)
        case atStart => exact ⟨0, Nat.zero_le _, rfl, rfl, rfl, Nat.le_refl _⟩
        case round =>
          obtain ⟨j, hj, rfl, rfl, rfl, hcj⟩ := hrel
          by_cases hjl : j < S1.length
          · have hjx : (j : Int) < (S1.length : Int) := by omega
            obtain ⟨g', eg, c0, c1⟩ := row2 HR.out hjl
            simp only [Option.some.injEq, Addr.mk.injEq, and_true] at eg
            subst eg
            have hct := cnt_take (id := (id : Int)) hjl
            by_cases hid2 : (gt S1 j).1 = (id : Int)
            · have hx : gt S1 j = ((id : Int), 1 + (q : Int), (k : Int) + 1) := by
                have hm := gt_mem hjl
                rw [HS1.out] at hm hid2 ⊢
                exact mem_ins hm hid2
              rw [hx] at c0 c1
              rw [if_pos hid2] at hct
              clear hx hid2
              generalize cnt (id : Int) (S1.take j) = cj at *
              go_wp2_with fail
              go_roundw
              case measure => simp [intOf]; omega
              case rel => exact ⟨j + 1, by omega, by simp, by rw [hct]; simp, trivial, by omega⟩
            · rw [if_neg hid2] at hct
              have hne : ¬ (gt S1 j).1 = (id : Int) := hid2
              generalize (gt S1 j).1 = t1 at *
              go_wp2_with fail
              go_roundw
              case measure => simp [intOf]; omega
              case rel => exact ⟨j + 1, by omega, by simp, by rw [hct]; simp, trivial, by omega⟩
          · have hjx : ¬ (j : Int) < (S1.length : Int) := by omega
            have hc1 : cnt (id : Int) (S1.take j) = 1 := by
              rw [List.take_of_length_le (by omega), HS1.out]
              exact cnt_ins ((id : Int), 1 + (q : Int), (k : Int) + 1) S
            rw [hc1]
            have hs : 0 ≤ s.2.1 ∧ s.2.1 ≤ 1099511627776 := by
              obtain ⟨xs, _, hw⟩ := HK3.out.1
              have hm : s ∈ S1 := by rw [HSL.out]; exact List.mem_cons_self
              exact (hw.2.2.2.2.2 s hm).2.1
            have HNx := wh_next wr HK3.out.1
            rw [show headAt S1 = s.2.1 by rw [HSL.out]; rfl, show hasOne S1 = true by rw [HSL.out]; rfl] at HNx
            obtain ⟨q3, hq3, HQ3⟩ := within_any (D k) 3 (by omega) (by omega)
            have HQ3' : Hid (∀ w, Calls Try.prog 7 #[.int .i64 (D k), .int .i64 3] w fun e w' => e = .returned (.int .i64 q3) ∧ w' = w) := HQ3
            obtain ⟨y0, _, _, _⟩ := HA3.out.row hlt
            have hjl2 : (S1.length : Int) ≤ (j : Int) := by omega
            have hlx : (0 : Int) < (S1.length : Int) := by omega
            have HK4 : Hid (Kept w wr w.heap.size v1 S1 ((k + 1 : Nat) : Int)) := by
              have := HK3.out
              rw [show (k : Int) + 1 = ((k + 1 : Nat) : Int) by simp] at this
              exact this
            clear HQ3 hcj heq hc1 hjx
            by_cases hz : q3 = 0
            · subst hz
              obtain ⟨d1, d2⟩ := due_less HSL.out
              obtain ⟨dd, d3⟩ := due_at HSL.out
              have hT : ((k + 1 : Nat) : Int) ≤ 100000 := by omega
              have HT1 := take_any (s.2.1 - 1) wr HK4.out.1 hT
              rw [d1, d2] at HT1
              simp only [List.length_nil] at HT1
              have HT2 : Hid (∀ v w', Wh w' w.heap.size v S1 ((k + 1 : Nat) : Int) → Calls Try.prog 15 #[.pointer (some ⟨w.heap.size, 0, none⟩), .int .i64 s.2.1] w' fun e w'' => ∃ g cap, e = .returned (.slice (some ⟨g, 0, none⟩) (due s.2.1 S1).length cap) ∧ w''.cell? ⟨g, 1, none⟩ = some (.int .i64 s.2.1) ∧ ∃ v', Wh w'' w.heap.size v' (left s.2.1 S1) ((k + 1 : Nat) : Int) ∧ Goes w.heap.size v v' w' w'') := fun v w' h => by
                refine (take_any s.2.1 w' h hT).mono ?_
                rintro e w'' ⟨a, cap, rfl, q1, q2⟩
                obtain ⟨g, rfl, _, c1⟩ := row2 q1 (j := 0) (by rw [d3]; simp)
                rw [show gt (due s.2.1 S1) 0 = s by rw [d3]; rfl] at c1
                exact ⟨g, cap, rfl, by simpa using c1, q2⟩
              have HAl : Hid (∀ v w', Wh w' w.heap.size v (left s.2.1 S1) ((k + 1 : Nat) : Int) → Calls Try.prog 12 #[.pointer (some ⟨w.heap.size, 0, none⟩)] w' fun e w'' => ∃ a cap, e = .returned (.slice a (left s.2.1 S1).length cap) ∧ Ext w' w'') := fun v w' h => by
                refine (all_sl w' h hT).mono ?_
                rintro e w'' ⟨a, cap, rfl, _, q2⟩
                exact ⟨a, cap, rfl, q2⟩
              have dl1 := due_len s.2.1 S1
              have dpos : 0 < (due s.2.1 S1).length := by rw [d3]; simp
              obtain ⟨n1, en1⟩ : ∃ n1, n1 = (due s.2.1 S1).length := ⟨_, rfl⟩
              obtain ⟨n2, en2⟩ : ∃ n2, n2 = (left s.2.1 S1).length := ⟨_, rfl⟩
              rw [← en1] at HT2 dl1 dpos
              rw [← en2] at HAl dl1
              have n1x : ¬ (n1 : Int) = 0 := by omega
              have n1p : (0 : Int) < (n1 : Int) := by omega
              have n12 : (n1 : Int) + (n2 : Int) = (S1.length : Int) := by omega
              clear d1 d2 d3 hT en1 en2
              generalize s.2.1 = nx at *
              go_upto_region 26 with (first | (go_at_call 11; refine HNx.mono ?_; rintro e wx ⟨rfl, hwx⟩; have hwy := hwx.symm; clear hwx; subst hwy) | (go_at_call 7; refine (HQ3'.out _).mono ?_; rintro e wx ⟨rfl, hwx⟩; have hwy := hwx.symm; clear hwx; subst hwy) | (go_at_call 15; refine HT1.mono ?_; rintro e w4 ⟨a4, cap4, rfl, _, v4, h4, t4⟩; clear HT1) | (go_at_call 15; refine (HT2.out _ _ h4).mono ?_; rintro e w5 ⟨g5, cap5, rfl, c5, v5, h5, t5⟩))
              have HK5 : Hid (Kept w w5 w.heap.size v5 (left nx S1) ((k + 1 : Nat) : Int)) := (HK4.out.goes t4 h4).goes t5 h5
              have HAl5 := HAl.out _ _ h5
              clear h4 t4 t5 h5 HNx HAl HT2
              go_wp2_with (go_at_call 12; refine HAl5.mono ?_; rintro e w6 ⟨a6, cap6, rfl, x6⟩)
              go_roundw
              case measure => simp [intOf]; omega
              case rel => exact ⟨k + 1, _, v5, by omega, by omega, by simp, HK5.out.ext x6⟩
            · have hzx : ¬ (q3 : Int) = 0 := by omega
              generalize s.2.1 = nx at *
              go_wp2_with (first | (go_at_call 11; refine HNx.mono ?_; rintro e wx ⟨rfl, hwx⟩; have hwy := hwx.symm; clear hwx; subst hwy) | (go_at_call 7; refine (HQ3'.out _).mono ?_; rintro e wx ⟨rfl, hwx⟩; have hwy := hwx.symm; clear hwx; subst hwy))
              go_roundw
              case measure => simp [intOf]; omega
              case rel => exact ⟨k + 1, S1, v1, by omega, by omega, by simp, HK4⟩
      · go_wp2_with (go_at_call 20; refine (HWk.out _).mono ?_; rintro e wk ⟨rfl, xk⟩)
        go_ret
        exact ⟨rfl, hK.out.2.1.trans xk⟩
    · go_wp2_with (go_at_call 20; refine (HWk.out _).mono ?_; rintro e wk ⟨rfl, xk⟩)
      go_ret
      exact ⟨rfl, hK.out.2.1.trans xk⟩
end Go.Proofs.Ytiallnpmgdjdfaa
