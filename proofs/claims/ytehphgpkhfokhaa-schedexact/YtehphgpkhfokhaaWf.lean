/- SchedExact: its walk. -/
import Derived.Test.YtehphgpkhfokhaaWg
import Derived.Deep.CutBlock
namespace Go.Proofs.Ytehphgpkhfokhaa
open Go.RowKit Go.Conc
theorem run_nil (t : Nat) (w : World) :
    Calls Try.prog 14 #[.pointer (some ⟨t, 0, none⟩), .int .i64 1, .nilFunc] w fun e w' => e = .returned (.tuple #[.slice none 0 0, .int .i64 1]) ∧ w' = w := by
  have hnil : ∀ w, (binOp .eql 43 .nilFunc .nilFunc).run Try.prog w = .ok (.bool true) w := fun _ => by kernel_rfl
  go_enter Try.func14, Try.ntmps14
  go_wp2_with fail
  exact bodyPost_ret (v := .tuple #[.slice none 0 0, .int .i64 1]) (by simp [results, Try.results14, go_sem]) rfl ⟨rfl, rfl⟩
theorem px_start {w w1 w2 w3 : World} {t b : Nat} {c : Nat → Nat} {q g n P : Nat} (hP : P < w1.heap.size) (h1 : Tk w w2 t b c (.slice none 0 0) ⟨List.replicate n false, [], 0, 0⟩) (h2 : ∀ k, OwnT t b c n (.slice none 0 0) k → w1.heap.size ≤ k) (x1 : Ext w1 w2) (x : Ext w2 w3) (h3 : RT w3 q g (.slice none 0 0) ⟨List.replicate n false, [], 0, 0⟩) (h4 : ∀ k, OwnQ q g (.slice none 0 0) k → w2.heap.size ≤ k) : PX (fun k => k = P) w w3 t q ⟨List.replicate n false, [], 0, 0⟩ ⟨List.replicate n false, [], 0, 0⟩ := by
  have s1 := x1.size
  have s2 := x.size
  have s0 := h1.x.size
  refine ⟨b, c, _, g, _, h1.ext x, h3, fun k o => ?_, fun k o o' => ?_, fun k o => ⟨fun o' => ?_, fun o' => ?_, ?_⟩⟩
  · have := h4 k o; omega
  · have := h1.tab.lt k o; have := h4 k o'; omega
  · have := h2 k (by simpa using o'); omega
  · have := h4 k o'; omega
  · omega
/-- what the loop keeps -/
structure Lk (w wr : World) (P t q : Nat) (N : Int) (at_ al : Option Addr) (lt ct ll cl : Nat) (k m : Nat) (s : St) : Prop where
  px : PX (fun j => j = P) w wr t q s s
  pc : Pc wr P N at_ al lt ct ll cl
  T : s.T ≤ 256 * k
  m : m ≤ 256 * k
set_option maxRecDepth 20000 in
set_option maxHeartbeats 8000000 in
theorem exact_law (N : Int) (at_ al : Option Addr) (lt ct ll cl : Nat) (U : Nat → Value) (L : Nat → List Int) (G : Nat → Int) (D M : Nat → Int) (w : World) (hT : Trns w at_ lt U L G) (hc : Acts w al ll D M) :
    Calls Try.prog 3 #[.agg #[.int .i64 N, .slice at_ lt ct, .slice al ll cl]] w fun e w' => e = .returned (.bool true) ∧ Ext w w' := by
  obtain ⟨i0, hi0, hz0, hz1, hz2⟩ := info_parts Try.infoInt
  have HA : Hid (Acts w al ll D M) := hc
  have HTr : Hid (Trns w at_ lt U L G) := hT
  have HN : Hid (∀ v w', Calls Try.prog 8 #[.int .i64 v] w' fun e w'' => e = .returned (.int .i64 v) ∧ w'' = w') := num_any
  have HWk : Hid (∀ w', Calls Try.prog 9 #[] w' fun e w'' => e = .returned (.bool true) ∧ Ext w' w'') := wakes_any
  have x0 : Ext w (w.alloc (.cells #[.int .i64 N, .slice at_ lt ct, .slice al ll cl] 25)) := (Ext.refl w).alloc _
  have HLg := long_any N at_ al lt ct ll cl U L G (w.alloc (.cells #[.int .i64 N, .slice at_ lt ct, .slice al ll cl] 25)) (fun i hi => by
    obtain ⟨b, off, h1, h2, h3, h4, h5⟩ := hT i hi
    exact ⟨b, off, h1, x0.keepc h2, x0.keepc h3, h4.ext x0, h5⟩)
  have HPc : Hid (Pc (w.alloc (.cells #[.int .i64 N, .slice at_ lt ct, .slice al ll cl] 25)) w.heap.size N at_ al lt ct ll cl) := ⟨by simp [go_sem], by simp [go_sem], by simp [go_sem]⟩
  have HX0 : Hid (Ext w (w.alloc (.cells #[.int .i64 N, .slice at_ lt ct, .slice al ll cl] 25))) := x0
  have HP0 : Hid (w.heap.size < (w.alloc (.cells #[.int .i64 N, .slice at_ lt ct, .slice al ll cl] 25)).heap.size) := by show _ < _; simp
  have c0 := HPc.out.1
  have c1 := HPc.out.2.1
  have c2 := HPc.out.2.2
  clear hT hc x0
  go_enter Try.func3, Try.ntmps3
  go_upto_region 1 with fail
  generalize w.alloc (.cells #[.int .i64 N, .slice at_ lt ct, .slice al ll cl] 25) = W0 at *
  generalize hP : w.heap.size = P at *
  have HP : Hid (w.heap.size = P) := hP
  clear hP
  go_upto_region 3 with (go_at_call 6; refine HLg.mono ?_; intro e w1 hlg; obtain ⟨rfl | ⟨rfl, hlg⟩, x1⟩ := hlg)
  · go_ret
    exact ⟨rfl, HX0.out.trans x1⟩
  · have HL : Hid (∀ i, i < lt → (L i).length ≤ 40) := hlg.out.2
    have HX1 : Hid (Ext w w1) := HX0.out.trans x1
    have HPc1 : Hid (Pc w1 P N at_ al lt ct ll cl) := HPc.out.ext x1
    have HP1 : Hid (P < w1.heap.size) := Nat.lt_of_lt_of_le HP0.out x1.size
    clear c0 c1 c2 HLg hlg x1 HPc HX0 HP0
    have c0 := HPc1.out.1
    by_cases hN : 1 ≤ N ∧ N ≤ 16
    · obtain ⟨n, rfl⟩ : ∃ n : Nat, N = n := ⟨N.toNat, by omega⟩
      have hn1 : ¬ (n : Int) < 1 := by omega
      have hn2 : ¬ (n : Int) > 16 := by omega
      have hn3 : 1 ≤ n := by omega
      have hn4 : n ≤ 16 := by omega
      have HNew := new_tk n w w1 HX1.out hn3 hn4
      clear hN
      go_upto_region 4 with (go_at_call 7; refine HNew.mono ?_; rintro e w2 ⟨t, b, c, rfl, r2, x2, o2⟩)
      have c02 := x2.keepc c0
      have HRn := rnew_any n w2 hn3 hn4
      clear HNew c0
      go_upto_region 9 with (first | (go_at_call 8; refine (HN.out _ _).mono ?_; rintro e wx ⟨rfl, hwx⟩; have hwy := hwx.symm; clear hwx; subst hwy) | (go_at_call 10; refine HRn.mono ?_; rintro e w3 ⟨q, g, rfl, r3, x3, o3⟩))
      have H0 : Hid (Lk w w3 P t q n at_ al lt ct ll cl 0 0 ⟨List.replicate n false, [], 0, 0⟩) := ⟨px_start HP1.out r2 o2 x2 x3 r3 o3, HPc1.out.ext (x2.trans x3), by simp, by simp⟩
      clear r2 x2 o2 r3 x3 o3 HRn c02 HPc1 HP1 HX1
      go_wp2_with fail
      go_loopw [6, 7] (fun s6 s7 wr => ∃ (k m : Nat) (s : St), k ≤ ll ∧ k ≤ 40 ∧ s7 = .int .i64 k ∧ s6 = .int .i64 m ∧ Hid (Lk w wr P t q n at_ al lt ct ll cl k m s)) (fun _ s7 _ => ll - (intOf s7).toNat)
      case atStart => exact ⟨0, 0, _, Nat.zero_le _, by omega, rfl, rfl, H0⟩
      case round =>
        obtain ⟨k, m, s, hk, hk40, rfl, rfl, hK⟩ := hrel
        clear H0
        have c2 := hK.out.pc.2.2
        have HRN := run_nil t wr
        by_cases hlt : k < ll
        · have hlt' : (k : Int) < (ll : Int) := by omega
          by_cases h40 : k < 40
          · have hA := HA.out.ext hK.out.px.x
            obtain ⟨b0, off, ea, _⟩ := hA k hlt
            subst ea
            obtain ⟨y0, y1, yD, yM⟩ := hA.row hlt
            obtain ⟨qd, hqd, HQd⟩ := within_any (D k) 8 (by omega) (by omega)
            have HQd : Hid (∀ w, Calls Try.prog 11 #[.int .i64 (D k), .int .i64 8] w fun e w' => e = .returned (.int .i64 qd) ∧ w' = w) := HQd
            have x1 : Ext wr (wr.alloc (.cells #[.int .i64 (D k), .int .i64 (M k)] 36)) := (Ext.refl wr).alloc _
            have HK1 : Hid (PX (fun j => j = P ∨ j = wr.heap.size) w (wr.alloc (.cells #[.int .i64 (D k), .int .i64 (M k)] 36)) t q s s ∧ Pc (wr.alloc (.cells #[.int .i64 (D k), .int .i64 (M k)] 36)) P n at_ (some ⟨b0, off, none⟩) lt ct ll cl) := ⟨hK.out.px.new x1 (fun j e => by rw [e]; simp), hK.out.pc.ext x1⟩
            have hX0 : (wr.alloc (.cells #[.int .i64 (D k), .int .i64 (M k)] 36)).cell? ⟨wr.heap.size, 0, none⟩ = some (.int .i64 (D k)) := by simp [go_sem]
            have hX1 : (wr.alloc (.cells #[.int .i64 (D k), .int .i64 (M k)] 36)).cell? ⟨wr.heap.size, 1, none⟩ = some (.int .i64 (M k)) := by simp [go_sem]
            have HBd : Hid (s.T ≤ 256 * k ∧ m ≤ 256 * k) := ⟨hK.out.T, hK.out.m⟩
            have HM : Hid (-9223372036854775808 ≤ M k ∧ M k ≤ 9223372036854775807) := yM
            have HnXP : Hid (P ≠ wr.heap.size ∧ w.heap.size ≤ wr.heap.size) := by
              refine ⟨?_, hK.out.px.x.size⟩
              have := World.block_lt_of_cell? wr ⟨P, 0, none⟩ hK.out.pc.1
              simp only at this
              omega
            clear hA hK yD yM x1
            go_upto_region 14 with fail
            clear y0 y1 c2
            generalize wr.alloc (.cells #[.int .i64 (D k), .int .i64 (M k)] 36) = W at *
            generalize wr.heap.size = X at *
            clear HRN
            go_upto_block 2 with (go_at_call 11; refine (HQd.out _).mono ?_; rintro e wx ⟨rfl, hwx⟩; have hwy := hwx.symm; clear hwx; subst hwy)
            clear HQd hX0
            try rw [show decide ((k : Int) < 40) = true from decide_eq_true (by omega)]
            go_cut [6, 9, 10, 11, 12, 13, 14, 15, 16, 17, 18] from 76 to 196 (fun s6 _ _ _ _ _ _ _ _ _ _ wx => ∃ (m' : Nat) (s' : St), s6 = .int .i64 m' ∧ Hid (PX (fun j => j = P ∨ j = X) w wx t q s' s' ∧ Pc wx P n at_ (some ⟨b0, off, none⟩) lt ct ll cl ∧ s'.T ≤ 256 * (k + 1) ∧ m' ≤ 256 * (k + 1)))
            case first =>
              have hq2 : qd = 0 ∨ qd = 1 ∨ qd = 2 ∨ qd = 3 ∨ qd = 4 ∨ 5 ≤ qd := by omega
              rcases hq2 with rfl | rfl | rfl | rfl | rfl | hq5
              · as_aux_lemma =>
                  by_cases hv : 0 ≤ M k ∧ M k < (s.A.length : Int)
                  · have HRw : Hid (Calls Try.prog 12 #[.pointer (some ⟨q, 0, none⟩), .int .i64 (M k)] W fun e w' => e = .returned (.bool true) ∧ w'.cell? ⟨X, 1, none⟩ = some (.int .i64 (M k)) ∧ Hid (PX (fun j => j = P ∨ j = X) w w' t q s { s with A := wk s.A (M k) } ∧ Pc w' P n at_ (some ⟨b0, off, none⟩) lt ct ll cl)) := by
                      have := px_rwake (M k) HK1.out.1
                      rw [decide_eq_true hv] at this
                      exact this.mono fun e w' ⟨he, p, kp⟩ => ⟨he, kp _ _ _ (.inr rfl) hX1, p, HK1.out.2.keep kp (.inl rfl)⟩
                    have HTw : Hid (∀ w', Hid (PX (fun j => j = P ∨ j = X) w w' t q s { s with A := wk s.A (M k) } ∧ Pc w' P n at_ (some ⟨b0, off, none⟩) lt ct ll cl) → Calls Try.prog 13 #[.pointer (some ⟨t, 0, none⟩), .int .i64 (M k)] w' fun e w'' => e = .returned (.int .i64 0) ∧ Hid (PX (fun j => j = P ∨ j = X) w w'' t q { s with A := wk s.A (M k) } { s with A := wk s.A (M k) } ∧ Pc w'' P n at_ (some ⟨b0, off, none⟩) lt ct ll cl)) := fun w' h => by
                      have := px_wake (M k) h.out.1
                      rw [show werr s.A (M k) = 0 from if_pos hv] at this
                      exact this.mono fun e w'' ⟨he, p, kp⟩ => ⟨he, p, h.out.2.keep kp (.inl rfl)⟩
                    clear HK1 hv
                    go_wp2_with (first | (go_at_call 12; refine HRw.out.mono ?_; rintro e w1 ⟨rfl, hX1, p1⟩) | (go_at_call 13; refine (HTw.out _ p1).mono ?_; rintro e w2 ⟨rfl, p2⟩) | (go_at_call 8; refine (HN.out _ _).mono ?_; rintro e wx ⟨rfl, hwx⟩; have hwy := hwx.symm; clear hwx; subst hwy))
                    go_meet
                    exact ⟨m, _, rfl, p2.out.1, p2.out.2, by have := HBd.out.1; simp only; omega, by have := HBd.out.2; omega⟩
                  · have HRw : Hid (Calls Try.prog 12 #[.pointer (some ⟨q, 0, none⟩), .int .i64 (M k)] W fun e w' => e = .returned (.bool false) ∧ w'.cell? ⟨X, 1, none⟩ = some (.int .i64 (M k)) ∧ Hid (PX (fun j => j = P ∨ j = X) w w' t q s s ∧ Pc w' P n at_ (some ⟨b0, off, none⟩) lt ct ll cl)) := by
                      have := px_rwake (M k) HK1.out.1
                      rw [decide_eq_false hv, show wk s.A (M k) = s.A from if_neg hv] at this
                      exact this.mono fun e w' ⟨he, p, kp⟩ => ⟨he, kp _ _ _ (.inr rfl) hX1, p, HK1.out.2.keep kp (.inl rfl)⟩
                    have HTw : Hid (∀ w', Hid (PX (fun j => j = P ∨ j = X) w w' t q s s ∧ Pc w' P n at_ (some ⟨b0, off, none⟩) lt ct ll cl) → Calls Try.prog 13 #[.pointer (some ⟨t, 0, none⟩), .int .i64 (M k)] w' fun e w'' => e = .returned (.int .i64 1) ∧ Hid (PX (fun j => j = P ∨ j = X) w w'' t q s s ∧ Pc w'' P n at_ (some ⟨b0, off, none⟩) lt ct ll cl)) := fun w' h => by
                      have := px_wake (M k) h.out.1
                      rw [show werr s.A (M k) = 1 from if_neg hv, show wk s.A (M k) = s.A from if_neg hv] at this
                      exact this.mono fun e w'' ⟨he, p, kp⟩ => ⟨he, p, h.out.2.keep kp (.inl rfl)⟩
                    clear HK1 hv
                    go_wp2_with (first | (go_at_call 12; refine HRw.out.mono ?_; rintro e w1 ⟨rfl, hX1, p1⟩) | (go_at_call 13; refine (HTw.out _ p1).mono ?_; rintro e w2 ⟨rfl, p2⟩) | (go_at_call 8; refine (HN.out _ _).mono ?_; rintro e wx ⟨rfl, hwx⟩; have hwy := hwx.symm; clear hwx; subst hwy))
                    go_meet
                    exact ⟨m, _, rfl, p2.out.1, p2.out.2, by have := HBd.out.1; omega, by have := HBd.out.2; omega⟩
              · as_aux_lemma =>
                  by_cases hv : 0 ≤ M k ∧ M k < (s.A.length : Int)
                  · have HRw : Hid (Calls Try.prog 12 #[.pointer (some ⟨q, 0, none⟩), .int .i64 (M k)] W fun e w' => e = .returned (.bool true) ∧ w'.cell? ⟨X, 1, none⟩ = some (.int .i64 (M k)) ∧ Hid (PX (fun j => j = P ∨ j = X) w w' t q s { s with A := wk s.A (M k) } ∧ Pc w' P n at_ (some ⟨b0, off, none⟩) lt ct ll cl)) := by
                      have := px_rwake (M k) HK1.out.1
                      rw [decide_eq_true hv] at this
                      exact this.mono fun e w' ⟨he, p, kp⟩ => ⟨he, kp _ _ _ (.inr rfl) hX1, p, HK1.out.2.keep kp (.inl rfl)⟩
                    have HTw : Hid (∀ w', Hid (PX (fun j => j = P ∨ j = X) w w' t q s { s with A := wk s.A (M k) } ∧ Pc w' P n at_ (some ⟨b0, off, none⟩) lt ct ll cl) → Calls Try.prog 13 #[.pointer (some ⟨t, 0, none⟩), .int .i64 (M k)] w' fun e w'' => e = .returned (.int .i64 0) ∧ Hid (PX (fun j => j = P ∨ j = X) w w'' t q { s with A := wk s.A (M k) } { s with A := wk s.A (M k) } ∧ Pc w'' P n at_ (some ⟨b0, off, none⟩) lt ct ll cl)) := fun w' h => by
                      have := px_wake (M k) h.out.1
                      rw [show werr s.A (M k) = 0 from if_pos hv] at this
                      exact this.mono fun e w'' ⟨he, p, kp⟩ => ⟨he, p, h.out.2.keep kp (.inl rfl)⟩
                    clear HK1 hv
                    go_wp2_with (first | (go_at_call 12; refine HRw.out.mono ?_; rintro e w1 ⟨rfl, hX1, p1⟩) | (go_at_call 13; refine (HTw.out _ p1).mono ?_; rintro e w2 ⟨rfl, p2⟩) | (go_at_call 8; refine (HN.out _ _).mono ?_; rintro e wx ⟨rfl, hwx⟩; have hwy := hwx.symm; clear hwx; subst hwy))
                    go_meet
                    exact ⟨m, _, rfl, p2.out.1, p2.out.2, by have := HBd.out.1; simp only; omega, by have := HBd.out.2; omega⟩
                  · have HRw : Hid (Calls Try.prog 12 #[.pointer (some ⟨q, 0, none⟩), .int .i64 (M k)] W fun e w' => e = .returned (.bool false) ∧ w'.cell? ⟨X, 1, none⟩ = some (.int .i64 (M k)) ∧ Hid (PX (fun j => j = P ∨ j = X) w w' t q s s ∧ Pc w' P n at_ (some ⟨b0, off, none⟩) lt ct ll cl)) := by
                      have := px_rwake (M k) HK1.out.1
                      rw [decide_eq_false hv, show wk s.A (M k) = s.A from if_neg hv] at this
                      exact this.mono fun e w' ⟨he, p, kp⟩ => ⟨he, kp _ _ _ (.inr rfl) hX1, p, HK1.out.2.keep kp (.inl rfl)⟩
                    have HTw : Hid (∀ w', Hid (PX (fun j => j = P ∨ j = X) w w' t q s s ∧ Pc w' P n at_ (some ⟨b0, off, none⟩) lt ct ll cl) → Calls Try.prog 13 #[.pointer (some ⟨t, 0, none⟩), .int .i64 (M k)] w' fun e w'' => e = .returned (.int .i64 1) ∧ Hid (PX (fun j => j = P ∨ j = X) w w'' t q s s ∧ Pc w'' P n at_ (some ⟨b0, off, none⟩) lt ct ll cl)) := fun w' h => by
                      have := px_wake (M k) h.out.1
                      rw [show werr s.A (M k) = 1 from if_neg hv, show wk s.A (M k) = s.A from if_neg hv] at this
                      exact this.mono fun e w'' ⟨he, p, kp⟩ => ⟨he, p, h.out.2.keep kp (.inl rfl)⟩
                    clear HK1 hv
                    go_wp2_with (first | (go_at_call 12; refine HRw.out.mono ?_; rintro e w1 ⟨rfl, hX1, p1⟩) | (go_at_call 13; refine (HTw.out _ p1).mono ?_; rintro e w2 ⟨rfl, p2⟩) | (go_at_call 8; refine (HN.out _ _).mono ?_; rintro e wx ⟨rfl, hwx⟩; have hwy := hwx.symm; clear hwx; subst hwy))
                    go_meet
                    exact ⟨m, _, rfl, p2.out.1, p2.out.2, by have := HBd.out.1; omega, by have := HBd.out.2; omega⟩
              · as_aux_lemma =>
                  by_cases hv : 0 ≤ M k ∧ M k ≤ 256
                  · obtain ⟨mo, hmo⟩ : ∃ mo : Nat, M k = mo := ⟨(M k).toNat, by omega⟩
                    rw [hmo] at hX1 hv
                    clear hmo
                    have hn1 : ¬ (mo : Int) < 0 := by omega
                    have hn2 : ¬ (mo : Int) > 256 := by omega
                    have hn3 : mo ≤ 256 := by omega
                    have lW := HK1.out.1.x.size
                    have lP := World.block_lt_of_cell? W ⟨P, 0, none⟩ HK1.out.2.1
                    have lX := World.block_lt_of_cell? W ⟨X, 1, none⟩ hX1
                    simp only at lP lX
                    have x2 : Ext W (W.alloc (.cells #[.int .i64 (m : Int)] 3)) := (Ext.refl W).alloc _
                    have p2 := HK1.out.1.new x2 (F' := fun j => j = W.heap.size) (fun j e => by rw [e]; simp)
                    have ik2 : Ik w P W.heap.size n at_ (some ⟨b0, off, none⟩) lt ct ll cl m (W.alloc (.cells #[.int .i64 (m : Int)] 3)) := ⟨x2.keepc HK1.out.2.1, x2.keepc HK1.out.2.2.1, x2.keepc HK1.out.2.2.2, by simp [go_sem], by simp [go_sem], HK1.out.1.x.trans x2, by omega, lW⟩
                    have hbd := HBd.out
                    have HRun := px_run mo m p2 (by omega) (.inl rfl) ik2 HTr.out HL.out hn3 (by omega) (by omega)
                    have hrT := runs_T (fun k _ => tell lt L G k) mo m s
                    have hfew := HK1.out.1.few
                    obtain ⟨R, hR⟩ : ∃ R, R = runs (fun k _ => tell lt L G k) mo m s := ⟨_, rfl⟩
                    rw [← hR] at HRun hrT
                    have HRT : Hid (R.2.1.T ≤ s.T + (mo : Nat) ∧ R.1.length ≤ mo) := ⟨hrT.1, hrT.2.2.2⟩
                    have HR0 : Hid (Rr (fun k _ => tell lt L G k) R mo m m s []) := ⟨by simp, by simp; omega, by rw [hR]; simp⟩
                    have hX12 := x2.keepc hX1
                    have HnK : Hid (¬ (W.heap.size = P ∨ W.heap.size = X)) := by show ¬ _; omega
                    have hmf : ∀ (fn : Fn) (first cap : Array Value) (w : World), (Instr.makeFunc fn first cap).run Try.prog w = .ok (.func fn first cap) w := fun _ _ _ _ => rfl
                    have HlWs : Hid (w.heap.size ≤ W.heap.size ∧ P < W.heap.size) := ⟨lW, lP⟩
                    clear HK1 hv p2 ik2 hbd hrT hfew hR lW lP lX x2
                    have HlW : Hid ((W.alloc (.cells #[.int .i64 (m : Int)] 3)).heap.size = W.heap.size + 1) := by show _ = _; simp
                    go_upto_region 36 with fail
                    clear hX1
                    generalize W.alloc (.cells #[.int .i64 (m : Int)] 3) = W2 at *
                    rw [HlW.out] at HRun
                    go_upto_region 37 with (go_at_call 14; refine HRun.mono ?_; rintro e w3 ⟨a3, c3, rfl, p3, row3, ik3, kp3⟩)
                    obtain ⟨F3, hF3⟩ : ∃ F3 : Nat → Prop, F3 = fun j => ((j = P ∨ j = X) ∨ j = W.heap.size) ∨ (Value.slice a3 R.1.length c3).ownBlock = some j := ⟨_, rfl⟩
                    have HI0 : Hid (Inn F3 w w3 t q R.2.1 s (.slice none 0 0) [] w3.heap.size ∧ Sd F3 w3 P X W.heap.size n at_ (some ⟨b0, off, none⟩) lt ct ll cl mo R (.slice a3 R.1.length c3) (W.heap.size + 1) ∧ ∀ j, F3 j ↔ ((j = P ∨ j = X) ∨ j = W.heap.size) ∨ (Value.slice a3 R.1.length c3).ownBlock = some j) := by
                      refine ⟨⟨?_, World.ownsRow_nil _ _ _ _, ik3.x.size, fun j _ e => by simp [Value.ownBlock] at e, Nat.le_refl _⟩, ⟨⟨ik3.p0, ik3.p1, ik3.p2⟩, kp3 _ _ _ (.inr rfl) hX12, ik3.k0, row3, ?_, ?_, ?_, ?_⟩, fun j => by rw [hF3]⟩
                      · rw [hF3]
                        exact p3.mono (fun j o => by
                          rcases o with o | o
                          · exact o
                          · simp [Value.ownBlock] at o)
                      · rw [hF3]; exact .inl (.inl (.inl rfl))
                      · rw [hF3]; exact .inl (.inl (.inr rfl))
                      · rw [hF3]; exact .inl (.inr rfl)
                      · intro g hg; rw [hF3]; exact .inr hg
                    clear hF3 p3 row3 ik3 kp3 HRun hX12
                    go_upto_block 3 with fail
                    go_cut [6, 15, 16, 17] from 156 to 180 (fun s6 s15 _ _ wx => ∃ (a : Option Addr) (cap : Nat), s6 = .int .i64 (R.2.2 : Nat) ∧ s15 = .slice a R.1.length cap ∧ Hid (Inn F3 w wx t q R.2.1 R.2.1 (.slice a R.1.length cap) R.1 w3.heap.size ∧ Sd F3 wx P X W.heap.size n at_ (some ⟨b0, off, none⟩) lt ct ll cl mo R (.slice a3 R.1.length c3) (W.heap.size + 1) ∧ R.2.2 = m + R.1.length))
                    case first =>
                      go_wp2_with fail
                      go_loopw [6, 15] (fun s6 s15 wr => ∃ (m' : Nat) (a : Option Addr) (cap : Nat) (l : List Int) (r' : St), s6 = .int .i64 m' ∧ s15 = .slice a l.length cap ∧ l.length ≤ mo ∧ Hid (Inn F3 w wr t q R.2.1 r' (.slice a l.length cap) l w3.heap.size ∧ Sd F3 wr P X W.heap.size n at_ (some ⟨b0, off, none⟩) lt ct ll cl mo R (.slice a3 R.1.length c3) (W.heap.size + 1) ∧ Rr (fun k _ => tell lt L G k) R mo m m' r' l)) (fun _ s15 _ => mo - lenV s15)
                      case atStart => exact ⟨m, none, 0, [], s, rfl, rfl, Nat.zero_le _, HI0.out.1, HI0.out.2.1, HR0.out⟩
                      case round =>
                        obtain ⟨m', a, cap, l, r', rfl, rfl, hlm, hI⟩ := hrel
                        have cx := hI.out.2.1.cx
                        by_cases hlt2 : l.length < mo
                        · have hlt3 : (l.length : Int) < (mo : Int) := by omega
                          have HNx := px_nextB hI.out.1.px
                          go_upto_region 40 with (go_at_call 19; refine HNx.mono ?_; intro e w4 hnx; rcases hnx with ⟨hlo, rfl, hw4⟩ | ⟨i, hlo, rfl, hil, p4, kb4⟩)
                          · subst hw4
                            obtain ⟨e1, e2, e3⟩ := hI.out.2.2.none hlo
                            have HF : Hid (Inn F3 w w4 t q R.2.1 R.2.1 (.slice a R.1.length cap) R.1 w3.heap.size ∧ Sd F3 w4 P X W.heap.size n at_ (some ⟨b0, off, none⟩) lt ct ll cl mo R (.slice a3 R.1.length c3) (W.heap.size + 1) ∧ R.2.2 = m + R.1.length) := by
                              obtain ⟨i1, i2, i3⟩ := hI.out
                              rw [← e2, ← e1] at i1
                              exact ⟨i1, i2, by rw [e3, e1]; exact i3.mm⟩
                            have HE1 : Hid (R.1.length = l.length ∧ R.2.2 = m') := ⟨by rw [e1], e3⟩
                            clear hI e1 e2 e3 HNx hlo
                            go_wp2_with fail
                            go_meet
                            exact ⟨a, cap, by rw [HE1.out.2], by rw [HE1.out.1], HF⟩
                          · have I4 : Inn F3 w w4 t q R.2.1 { r' with A := r'.A.set i false } (.slice a l.length cap) l w3.heap.size := hI.out.1.step p4 kb4
                            have S4 := hI.out.2.1.keep (w' := w4) ⟨kb4.1, fun j hj => kb4.2 j (.inl hj)⟩
                            have R4 := hI.out.2.2.step hlt2 hlo
                            have HTu := turn_any n at_ (some ⟨b0, off, none⟩) lt ct ll cl U L G m' w w4 I4.px.x HTr.out
                            have htl := tell_in HTr.out HL.out m'
                            have hss := hI.out.2.2.ss
                            have hmm := hI.out.2.2.mm
                            obtain ⟨q0, q1, q2⟩ := S4.pc
                            have hni : ¬ ((i : Nat) : Int) < 0 := by omega
                            have HmB : Hid (m' ≤ 100000) := by have := HBd.out.2; show _ ≤ _; omega
                            have hmx : (m' : Int) ≤ 9223372036854775806 := by have := HmB.out; omega
                            have HR4 : Hid (Rr (fun k _ => tell lt L G k) R mo m (m' + 1) (heeded { r' with A := r'.A.set i false } i (tell lt L G m').1 (tell lt L G m').2) (l ++ [(i : Int)])) := R4
                            have HI4 : Hid (Inn F3 w w4 t q R.2.1 { r' with A := r'.A.set i false } (.slice a l.length cap) l w3.heap.size ∧ Sd F3 w4 P X W.heap.size n at_ (some ⟨b0, off, none⟩) lt ct ll cl mo R (.slice a3 R.1.length c3) (W.heap.size + 1)) := ⟨I4, S4⟩
                            have HSl : Hid (r'.S.length ≤ 1000 ∧ (tell lt L G m').1.length ≤ 40 ∧ -9223372036854775808 ≤ (tell lt L G m').2 ∧ (tell lt L G m').2 ≤ 9223372036854775807) := ⟨by omega, htl⟩
                            clear hI HNx p4 kb4 I4 S4 R4 htl hss hmm hlo hil cx
                            obtain ⟨tl, htl⟩ : ∃ tl, tl = (tell lt L G m').1 := ⟨_, rfl⟩
                            obtain ⟨ty, hty⟩ : ∃ ty, ty = (tell lt L G m').2 := ⟨_, rfl⟩
                            rw [← htl, ← hty] at HTu HR4 HSl
                            clear htl hty
                            go_upto_region 42 with (go_at_call 17; refine HTu.mono ?_; rintro e w5 ⟨a5, c5, rfl, r5, x5⟩)
                            have x6 : Ext w4 (w5.alloc (.cells #[.slice a5 tl.length c5, .int .i64 ty] 45)) := x5.trans ((Ext.refl w5).alloc _)
                            have Y0 : (w5.alloc (.cells #[.slice a5 tl.length c5, .int .i64 ty] 45)).cell? ⟨w5.heap.size, 0, none⟩ = some (.slice a5 tl.length c5) := by simp [go_sem]
                            have Y1 : (w5.alloc (.cells #[.slice a5 tl.length c5, .int .i64 ty] 45)).cell? ⟨w5.heap.size, 1, none⟩ = some (.int .i64 ty) := by simp [go_sem]
                            have I6 := HI4.out.1.ext x6
                            have S6 := HI4.out.2.ext x6
                            have HRa : Hid (Calls Try.prog 20 #[.pointer (some ⟨q, 0, none⟩), .int .i64 (i : Nat), .slice a5 tl.length c5, .int .i64 ty] (w5.alloc (.cells #[.slice a5 tl.length c5, .int .i64 ty] 45)) fun e w' => (∃ y, e = .returned y) ∧ Hid (Inn F3 w w' t q R.2.1 (heeded { r' with A := r'.A.set i false } i tl ty) (.slice a l.length cap) l w3.heap.size ∧ Sd F3 w' P X W.heap.size n at_ (some ⟨b0, off, none⟩) lt ct ll cl mo R (.slice a3 R.1.length c3) (W.heap.size + 1))) :=
                              (px_ranB i (.slice a5 tl.length c5) tl ty I6.px r5 HSl.out.1 (by have := HSl.out.2.1; omega) HSl.out.2.2).mono fun e w' ⟨he, p, kb⟩ => ⟨he, I6.step p kb, S6.keep ⟨kb.1, fun j hj => kb.2 j (.inl hj)⟩⟩
                            clear HTu HI4 x5 x6 r5 I6 S6 q0 q1 q2
                            generalize w5.alloc (.cells #[.slice a5 tl.length c5, .int .i64 ty] 45) = W6 at *
                            generalize w5.heap.size = Y at *
                            go_upto_region 44 with (go_at_call 20; refine HRa.out.mono ?_; rintro e w7 ⟨⟨y7, rfl⟩, I7⟩)
                            have row7 := I7.out.1.row
                            have hb : w3.heap.size ≤ w7.heap.size + 1 := by have := I7.out.1.hS; omega
                            have h63 : l.length + 1 ≤ maxLen := by unfold maxLen; omega
                            have hby : (l.length + 1) * 8 ≤ 140737488355328 := by omega
                            clear HRa Y0 Y1
                            go_wp2_with (at_builtin; refine wpList_append_lies _ rfl (.tmp 177) (.tmp 179) 40 rfl w3.heap.size Ei i0 (.int .i64 0) 1 8 Try.underlying40 hi0 hz0 hz1 hz2 rfl (by decide) _ l.length (nums l) rfl (by exact row7.alloc _) ⟨w7.heap.size, 0, none⟩ 1 1 [.int .i64 (i : Nat)] rfl rfl (by exact one_new w7 _ _) (by simp [Value.oneCell']) (by decide) h63 hby (by simpa using hb) (w7.heap.size + 1) (by simp) ?_; intro g' cap' w8 hown' hg' hgb hgl; have R8 : Hid (Inn F3 w w8 t q R.2.1 (heeded { r' with A := r'.A.set i false } i tl ty) (.slice (some ⟨g', 0, none⟩) (l ++ [(i : Int)]).length cap') (l ++ [(i : Int)]) w3.heap.size ∧ Sd F3 w8 P X W.heap.size n at_ (some ⟨b0, off, none⟩) lt ct ll cl mo R (.slice a3 R.1.length c3) (W.heap.size + 1)) := (by obtain ⟨j1, j2⟩ := I7.out.1.app _ hg' hown' hgb; exact ⟨j1, I7.out.2.keep j2⟩); clear hown' hg' hgb hgl)
                            have hll : (l ++ [(i : Int)]).length = l.length + 1 := by simp
                            go_roundw
                            case measure => simp [lenV]; omega
                            case rel => exact ⟨m' + 1, _, cap', l ++ [(i : Int)], _, by simp, by rw [hll], by rw [hll]; omega, R8.out.1, R8.out.2, HR4.out⟩
                        · have hlt3 : ¬ (l.length : Int) < (mo : Int) := by omega
                          obtain ⟨e1, e2, e3⟩ := hI.out.2.2.full hlt2
                          have HF : Hid (Inn F3 w wr t q R.2.1 R.2.1 (.slice a R.1.length cap) R.1 w3.heap.size ∧ Sd F3 wr P X W.heap.size n at_ (some ⟨b0, off, none⟩) lt ct ll cl mo R (.slice a3 R.1.length c3) (W.heap.size + 1) ∧ R.2.2 = m + R.1.length) := by
                            obtain ⟨i1, i2, i3⟩ := hI.out
                            rw [← e2, ← e1] at i1
                            exact ⟨i1, i2, by rw [e3, e1]; exact i3.mm⟩
                          have HE1 : Hid (R.1.length = l.length ∧ R.2.2 = m') := ⟨by rw [e1], e3⟩
                          clear hI e1 e2 e3
                          go_wp2_with fail
                          go_meet
                          exact ⟨a, cap, by rw [HE1.out.2], by rw [HE1.out.1], HF⟩
                    case rest =>
                      obtain ⟨a, cap, rfl, rfl, hG⟩ := hcut
                      have hRl : R.1.length ≤ 256 := by have := HRT.out.2; omega
                      have HEq : Hid (Calls Try.prog 21 #[.slice a3 R.1.length c3, .slice a R.1.length cap] wc fun e w' => e = .returned (.bool true) ∧ w'.cell? ⟨W.heap.size, 0, none⟩ = some (.int .i64 (R.2.2 : Nat)) ∧ Hid (Inn F3 w w' t q R.2.1 R.2.1 (.slice a R.1.length cap) R.1 w3.heap.size ∧ Sd F3 w' P X W.heap.size n at_ (some ⟨b0, off, none⟩) lt ct ll cl mo R (.slice a3 R.1.length c3) (W.heap.size + 1))) :=
                        (eq_nums (l := R.1) _ _ wc (rdi_row hG.out.2.1.lr) (rdi_row hG.out.1.row) (by omega)).mono fun e w' ⟨he, x⟩ => ⟨he, (hG.out.2.1.ext x).ck, hG.out.1.ext x, hG.out.2.1.ext x⟩
                      have HSp : Hid (∀ w9, Hid (Inn F3 w w9 t q R.2.1 R.2.1 (.slice a R.1.length cap) R.1 w3.heap.size ∧ Sd F3 w9 P X W.heap.size n at_ (some ⟨b0, off, none⟩) lt ct ll cl mo R (.slice a3 R.1.length c3) (W.heap.size + 1)) → Calls Try.prog 22 #[.slice a3 R.1.length c3] w9 fun e w' => (∃ u, e = .returned u) ∧ Hid (PX (fun j => j = P ∨ j = X) w w' t q R.2.1 R.2.1 ∧ Pc w' P n at_ (some ⟨b0, off, none⟩) lt ct ll cl)) := fun w9 h => by
                        refine (spoil_nums (.slice a3 R.1.length c3) w9 ⟨R.1, rfl, h.out.2.lr⟩ (by omega)).mono ?_
                        rintro e w' ⟨he, tt⟩
                        have hge : ∀ g, (Value.slice a3 R.1.length c3).ownBlock = some g → W.heap.size + 1 ≤ g := fun g hg => (h.out.2.lr.lt g hg).1
                        have hw := HlWs.out
                        have p9 := h.out.1.px.other tt (fun g hg => ⟨.inl (h.out.2.fl g hg), by have := hge g hg; omega⟩)
                        have nP : ¬ (Value.slice a3 R.1.length c3).ownBlock = some P := fun e => by have := hge P e; omega
                        exact ⟨he, p9.mono (fun j hj => .inl ((HI0.out.2.2 j).2 (.inl (.inl hj)))), tt.keepc nP h.out.2.pc.1, tt.keepc nP h.out.2.pc.2.1, tt.keepc nP h.out.2.pc.2.2⟩
                      have HBR : Hid (R.2.1.T ≤ 256 * (k + 1) ∧ R.2.2 ≤ 256 * (k + 1)) := by
                        have b1 := HRT.out
                        have b2 := HBd.out
                        have b3 := hG.out.2.2
                        refine ⟨by omega, by omega⟩
                      clear hG HI0 HR0 HRT HlWs
                      go_wp2_with (first | (go_at_call 8; refine (HN.out _ _).mono ?_; rintro e wx ⟨rfl, hwx⟩; have hwy := hwx.symm; clear hwx; subst hwy) | (go_at_call 21; refine HEq.out.mono ?_; rintro e w9 ⟨rfl, ck9, p9⟩) | (go_at_call 22; refine (HSp.out _ p9).mono ?_; rintro e w10 ⟨⟨u10, rfl⟩, p10⟩))
                      go_meet
                      exact ⟨R.2.2, R.2.1, rfl, p10.out.1, p10.out.2, HBR.out.1, HBR.out.2⟩
                  · have HRB : Hid (∀ fv, Calls Try.prog 14 #[.pointer (some ⟨t, 0, none⟩), .int .i64 (M k), fv] W fun e w' => e = .returned (.tuple #[.slice none 0 0, .int .i64 1]) ∧ w' = W) := fun fv => run_bad (M k) fv t W hv
                    by_cases hb : M k < 0
                    · clear hv
                      go_wp2_with (first | (go_at_call 14; refine (HRB.out _).mono ?_; rintro e wx ⟨rfl, hwx⟩; have hwy := hwx.symm; clear hwx; subst hwy) | (go_at_call 8; refine (HN.out _ _).mono ?_; rintro e wx ⟨rfl, hwx⟩; have hwy := hwx.symm; clear hwx; subst hwy))
                      go_meet
                      exact ⟨m, s, rfl, HK1.out.1, HK1.out.2, by have := HBd.out.1; omega, by have := HBd.out.2; omega⟩
                    · have hb2 : M k > 256 := by omega
                      clear hv
                      go_wp2_with (first | (go_at_call 14; refine (HRB.out _).mono ?_; rintro e wx ⟨rfl, hwx⟩; have hwy := hwx.symm; clear hwx; subst hwy) | (go_at_call 8; refine (HN.out _ _).mono ?_; rintro e wx ⟨rfl, hwx⟩; have hwy := hwx.symm; clear hwx; subst hwy))
                      go_meet
                      exact ⟨m, s, rfl, HK1.out.1, HK1.out.2, by have := HBd.out.1; omega, by have := HBd.out.2; omega⟩
              · as_aux_lemma =>
                  by_cases hv : 0 ≤ M k ∧ M k ≤ 256
                  · obtain ⟨mo, hmo⟩ : ∃ mo : Nat, M k = mo := ⟨(M k).toNat, by omega⟩
                    rw [hmo] at hX1 hv
                    clear hmo
                    have hn1 : ¬ (mo : Int) < 0 := by omega
                    have hn2 : ¬ (mo : Int) > 256 := by omega
                    have hn3 : mo ≤ 256 := by omega
                    have lW := HK1.out.1.x.size
                    have lP := World.block_lt_of_cell? W ⟨P, 0, none⟩ HK1.out.2.1
                    have lX := World.block_lt_of_cell? W ⟨X, 1, none⟩ hX1
                    simp only at lP lX
                    have x2 : Ext W (W.alloc (.cells #[.int .i64 (m : Int)] 3)) := (Ext.refl W).alloc _
                    have p2 := HK1.out.1.new x2 (F' := fun j => j = W.heap.size) (fun j e => by rw [e]; simp)
                    have ik2 : Ik w P W.heap.size n at_ (some ⟨b0, off, none⟩) lt ct ll cl m (W.alloc (.cells #[.int .i64 (m : Int)] 3)) := ⟨x2.keepc HK1.out.2.1, x2.keepc HK1.out.2.2.1, x2.keepc HK1.out.2.2.2, by simp [go_sem], by simp [go_sem], HK1.out.1.x.trans x2, by omega, lW⟩
                    have hbd := HBd.out
                    have HRun := px_run mo m p2 (by omega) (.inl rfl) ik2 HTr.out HL.out hn3 (by omega) (by omega)
                    have hrT := runs_T (fun k _ => tell lt L G k) mo m s
                    have hfew := HK1.out.1.few
                    obtain ⟨R, hR⟩ : ∃ R, R = runs (fun k _ => tell lt L G k) mo m s := ⟨_, rfl⟩
                    rw [← hR] at HRun hrT
                    have HRT : Hid (R.2.1.T ≤ s.T + (mo : Nat) ∧ R.1.length ≤ mo) := ⟨hrT.1, hrT.2.2.2⟩
                    have HR0 : Hid (Rr (fun k _ => tell lt L G k) R mo m m s []) := ⟨by simp, by simp; omega, by rw [hR]; simp⟩
                    have hX12 := x2.keepc hX1
                    have HnK : Hid (¬ (W.heap.size = P ∨ W.heap.size = X)) := by show ¬ _; omega
                    have hmf : ∀ (fn : Fn) (first cap : Array Value) (w : World), (Instr.makeFunc fn first cap).run Try.prog w = .ok (.func fn first cap) w := fun _ _ _ _ => rfl
                    have HlWs : Hid (w.heap.size ≤ W.heap.size ∧ P < W.heap.size) := ⟨lW, lP⟩
                    clear HK1 hv p2 ik2 hbd hrT hfew hR lW lP lX x2
                    have HlW : Hid ((W.alloc (.cells #[.int .i64 (m : Int)] 3)).heap.size = W.heap.size + 1) := by show _ = _; simp
                    go_upto_region 36 with fail
                    clear hX1
                    generalize W.alloc (.cells #[.int .i64 (m : Int)] 3) = W2 at *
                    rw [HlW.out] at HRun
                    go_upto_region 37 with (go_at_call 14; refine HRun.mono ?_; rintro e w3 ⟨a3, c3, rfl, p3, row3, ik3, kp3⟩)
                    obtain ⟨F3, hF3⟩ : ∃ F3 : Nat → Prop, F3 = fun j => ((j = P ∨ j = X) ∨ j = W.heap.size) ∨ (Value.slice a3 R.1.length c3).ownBlock = some j := ⟨_, rfl⟩
                    have HI0 : Hid (Inn F3 w w3 t q R.2.1 s (.slice none 0 0) [] w3.heap.size ∧ Sd F3 w3 P X W.heap.size n at_ (some ⟨b0, off, none⟩) lt ct ll cl mo R (.slice a3 R.1.length c3) (W.heap.size + 1) ∧ ∀ j, F3 j ↔ ((j = P ∨ j = X) ∨ j = W.heap.size) ∨ (Value.slice a3 R.1.length c3).ownBlock = some j) := by
                      refine ⟨⟨?_, World.ownsRow_nil _ _ _ _, ik3.x.size, fun j _ e => by simp [Value.ownBlock] at e, Nat.le_refl _⟩, ⟨⟨ik3.p0, ik3.p1, ik3.p2⟩, kp3 _ _ _ (.inr rfl) hX12, ik3.k0, row3, ?_, ?_, ?_, ?_⟩, fun j => by rw [hF3]⟩
                      · rw [hF3]
                        exact p3.mono (fun j o => by
                          rcases o with o | o
                          · exact o
                          · simp [Value.ownBlock] at o)
                      · rw [hF3]; exact .inl (.inl (.inl rfl))
                      · rw [hF3]; exact .inl (.inl (.inr rfl))
                      · rw [hF3]; exact .inl (.inr rfl)
                      · intro g hg; rw [hF3]; exact .inr hg
                    clear hF3 p3 row3 ik3 kp3 HRun hX12
                    go_upto_block 3 with fail
                    go_cut [6, 15, 16, 17] from 156 to 180 (fun s6 s15 _ _ wx => ∃ (a : Option Addr) (cap : Nat), s6 = .int .i64 (R.2.2 : Nat) ∧ s15 = .slice a R.1.length cap ∧ Hid (Inn F3 w wx t q R.2.1 R.2.1 (.slice a R.1.length cap) R.1 w3.heap.size ∧ Sd F3 wx P X W.heap.size n at_ (some ⟨b0, off, none⟩) lt ct ll cl mo R (.slice a3 R.1.length c3) (W.heap.size + 1) ∧ R.2.2 = m + R.1.length))
                    case first =>
                      go_wp2_with fail
                      go_loopw [6, 15] (fun s6 s15 wr => ∃ (m' : Nat) (a : Option Addr) (cap : Nat) (l : List Int) (r' : St), s6 = .int .i64 m' ∧ s15 = .slice a l.length cap ∧ l.length ≤ mo ∧ Hid (Inn F3 w wr t q R.2.1 r' (.slice a l.length cap) l w3.heap.size ∧ Sd F3 wr P X W.heap.size n at_ (some ⟨b0, off, none⟩) lt ct ll cl mo R (.slice a3 R.1.length c3) (W.heap.size + 1) ∧ Rr (fun k _ => tell lt L G k) R mo m m' r' l)) (fun _ s15 _ => mo - lenV s15)
                      case atStart => exact ⟨m, none, 0, [], s, rfl, rfl, Nat.zero_le _, HI0.out.1, HI0.out.2.1, HR0.out⟩
                      case round =>
                        obtain ⟨m', a, cap, l, r', rfl, rfl, hlm, hI⟩ := hrel
                        have cx := hI.out.2.1.cx
                        by_cases hlt2 : l.length < mo
                        · have hlt3 : (l.length : Int) < (mo : Int) := by omega
                          have HNx := px_nextB hI.out.1.px
                          go_upto_region 40 with (go_at_call 19; refine HNx.mono ?_; intro e w4 hnx; rcases hnx with ⟨hlo, rfl, hw4⟩ | ⟨i, hlo, rfl, hil, p4, kb4⟩)
                          · subst hw4
                            obtain ⟨e1, e2, e3⟩ := hI.out.2.2.none hlo
                            have HF : Hid (Inn F3 w w4 t q R.2.1 R.2.1 (.slice a R.1.length cap) R.1 w3.heap.size ∧ Sd F3 w4 P X W.heap.size n at_ (some ⟨b0, off, none⟩) lt ct ll cl mo R (.slice a3 R.1.length c3) (W.heap.size + 1) ∧ R.2.2 = m + R.1.length) := by
                              obtain ⟨i1, i2, i3⟩ := hI.out
                              rw [← e2, ← e1] at i1
                              exact ⟨i1, i2, by rw [e3, e1]; exact i3.mm⟩
                            have HE1 : Hid (R.1.length = l.length ∧ R.2.2 = m') := ⟨by rw [e1], e3⟩
                            clear hI e1 e2 e3 HNx hlo
                            go_wp2_with fail
                            go_meet
                            exact ⟨a, cap, by rw [HE1.out.2], by rw [HE1.out.1], HF⟩
                          · have I4 : Inn F3 w w4 t q R.2.1 { r' with A := r'.A.set i false } (.slice a l.length cap) l w3.heap.size := hI.out.1.step p4 kb4
                            have S4 := hI.out.2.1.keep (w' := w4) ⟨kb4.1, fun j hj => kb4.2 j (.inl hj)⟩
                            have R4 := hI.out.2.2.step hlt2 hlo
                            have HTu := turn_any n at_ (some ⟨b0, off, none⟩) lt ct ll cl U L G m' w w4 I4.px.x HTr.out
                            have htl := tell_in HTr.out HL.out m'
                            have hss := hI.out.2.2.ss
                            have hmm := hI.out.2.2.mm
                            obtain ⟨q0, q1, q2⟩ := S4.pc
                            have hni : ¬ ((i : Nat) : Int) < 0 := by omega
                            have HmB : Hid (m' ≤ 100000) := by have := HBd.out.2; show _ ≤ _; omega
                            have hmx : (m' : Int) ≤ 9223372036854775806 := by have := HmB.out; omega
                            have HR4 : Hid (Rr (fun k _ => tell lt L G k) R mo m (m' + 1) (heeded { r' with A := r'.A.set i false } i (tell lt L G m').1 (tell lt L G m').2) (l ++ [(i : Int)])) := R4
                            have HI4 : Hid (Inn F3 w w4 t q R.2.1 { r' with A := r'.A.set i false } (.slice a l.length cap) l w3.heap.size ∧ Sd F3 w4 P X W.heap.size n at_ (some ⟨b0, off, none⟩) lt ct ll cl mo R (.slice a3 R.1.length c3) (W.heap.size + 1)) := ⟨I4, S4⟩
                            have HSl : Hid (r'.S.length ≤ 1000 ∧ (tell lt L G m').1.length ≤ 40 ∧ -9223372036854775808 ≤ (tell lt L G m').2 ∧ (tell lt L G m').2 ≤ 9223372036854775807) := ⟨by omega, htl⟩
                            clear hI HNx p4 kb4 I4 S4 R4 htl hss hmm hlo hil cx
                            obtain ⟨tl, htl⟩ : ∃ tl, tl = (tell lt L G m').1 := ⟨_, rfl⟩
                            obtain ⟨ty, hty⟩ : ∃ ty, ty = (tell lt L G m').2 := ⟨_, rfl⟩
                            rw [← htl, ← hty] at HTu HR4 HSl
                            clear htl hty
                            go_upto_region 42 with (go_at_call 17; refine HTu.mono ?_; rintro e w5 ⟨a5, c5, rfl, r5, x5⟩)
                            have x6 : Ext w4 (w5.alloc (.cells #[.slice a5 tl.length c5, .int .i64 ty] 45)) := x5.trans ((Ext.refl w5).alloc _)
                            have Y0 : (w5.alloc (.cells #[.slice a5 tl.length c5, .int .i64 ty] 45)).cell? ⟨w5.heap.size, 0, none⟩ = some (.slice a5 tl.length c5) := by simp [go_sem]
                            have Y1 : (w5.alloc (.cells #[.slice a5 tl.length c5, .int .i64 ty] 45)).cell? ⟨w5.heap.size, 1, none⟩ = some (.int .i64 ty) := by simp [go_sem]
                            have I6 := HI4.out.1.ext x6
                            have S6 := HI4.out.2.ext x6
                            have HRa : Hid (Calls Try.prog 20 #[.pointer (some ⟨q, 0, none⟩), .int .i64 (i : Nat), .slice a5 tl.length c5, .int .i64 ty] (w5.alloc (.cells #[.slice a5 tl.length c5, .int .i64 ty] 45)) fun e w' => (∃ y, e = .returned y) ∧ Hid (Inn F3 w w' t q R.2.1 (heeded { r' with A := r'.A.set i false } i tl ty) (.slice a l.length cap) l w3.heap.size ∧ Sd F3 w' P X W.heap.size n at_ (some ⟨b0, off, none⟩) lt ct ll cl mo R (.slice a3 R.1.length c3) (W.heap.size + 1))) :=
                              (px_ranB i (.slice a5 tl.length c5) tl ty I6.px r5 HSl.out.1 (by have := HSl.out.2.1; omega) HSl.out.2.2).mono fun e w' ⟨he, p, kb⟩ => ⟨he, I6.step p kb, S6.keep ⟨kb.1, fun j hj => kb.2 j (.inl hj)⟩⟩
                            clear HTu HI4 x5 x6 r5 I6 S6 q0 q1 q2
                            generalize w5.alloc (.cells #[.slice a5 tl.length c5, .int .i64 ty] 45) = W6 at *
                            generalize w5.heap.size = Y at *
                            go_upto_region 44 with (go_at_call 20; refine HRa.out.mono ?_; rintro e w7 ⟨⟨y7, rfl⟩, I7⟩)
                            have row7 := I7.out.1.row
                            have hb : w3.heap.size ≤ w7.heap.size + 1 := by have := I7.out.1.hS; omega
                            have h63 : l.length + 1 ≤ maxLen := by unfold maxLen; omega
                            have hby : (l.length + 1) * 8 ≤ 140737488355328 := by omega
                            clear HRa Y0 Y1
                            go_wp2_with (at_builtin; refine wpList_append_lies _ rfl (.tmp 177) (.tmp 179) 40 rfl w3.heap.size Ei i0 (.int .i64 0) 1 8 Try.underlying40 hi0 hz0 hz1 hz2 rfl (by decide) _ l.length (nums l) rfl (by exact row7.alloc _) ⟨w7.heap.size, 0, none⟩ 1 1 [.int .i64 (i : Nat)] rfl rfl (by exact one_new w7 _ _) (by simp [Value.oneCell']) (by decide) h63 hby (by simpa using hb) (w7.heap.size + 1) (by simp) ?_; intro g' cap' w8 hown' hg' hgb hgl; have R8 : Hid (Inn F3 w w8 t q R.2.1 (heeded { r' with A := r'.A.set i false } i tl ty) (.slice (some ⟨g', 0, none⟩) (l ++ [(i : Int)]).length cap') (l ++ [(i : Int)]) w3.heap.size ∧ Sd F3 w8 P X W.heap.size n at_ (some ⟨b0, off, none⟩) lt ct ll cl mo R (.slice a3 R.1.length c3) (W.heap.size + 1)) := (by obtain ⟨j1, j2⟩ := I7.out.1.app _ hg' hown' hgb; exact ⟨j1, I7.out.2.keep j2⟩); clear hown' hg' hgb hgl)
                            have hll : (l ++ [(i : Int)]).length = l.length + 1 := by simp
                            go_roundw
                            case measure => simp [lenV]; omega
                            case rel => exact ⟨m' + 1, _, cap', l ++ [(i : Int)], _, by simp, by rw [hll], by rw [hll]; omega, R8.out.1, R8.out.2, HR4.out⟩
                        · have hlt3 : ¬ (l.length : Int) < (mo : Int) := by omega
                          obtain ⟨e1, e2, e3⟩ := hI.out.2.2.full hlt2
                          have HF : Hid (Inn F3 w wr t q R.2.1 R.2.1 (.slice a R.1.length cap) R.1 w3.heap.size ∧ Sd F3 wr P X W.heap.size n at_ (some ⟨b0, off, none⟩) lt ct ll cl mo R (.slice a3 R.1.length c3) (W.heap.size + 1) ∧ R.2.2 = m + R.1.length) := by
                            obtain ⟨i1, i2, i3⟩ := hI.out
                            rw [← e2, ← e1] at i1
                            exact ⟨i1, i2, by rw [e3, e1]; exact i3.mm⟩
                          have HE1 : Hid (R.1.length = l.length ∧ R.2.2 = m') := ⟨by rw [e1], e3⟩
                          clear hI e1 e2 e3
                          go_wp2_with fail
                          go_meet
                          exact ⟨a, cap, by rw [HE1.out.2], by rw [HE1.out.1], HF⟩
                    case rest =>
                      obtain ⟨a, cap, rfl, rfl, hG⟩ := hcut
                      have hRl : R.1.length ≤ 256 := by have := HRT.out.2; omega
                      have HEq : Hid (Calls Try.prog 21 #[.slice a3 R.1.length c3, .slice a R.1.length cap] wc fun e w' => e = .returned (.bool true) ∧ w'.cell? ⟨W.heap.size, 0, none⟩ = some (.int .i64 (R.2.2 : Nat)) ∧ Hid (Inn F3 w w' t q R.2.1 R.2.1 (.slice a R.1.length cap) R.1 w3.heap.size ∧ Sd F3 w' P X W.heap.size n at_ (some ⟨b0, off, none⟩) lt ct ll cl mo R (.slice a3 R.1.length c3) (W.heap.size + 1))) :=
                        (eq_nums (l := R.1) _ _ wc (rdi_row hG.out.2.1.lr) (rdi_row hG.out.1.row) (by omega)).mono fun e w' ⟨he, x⟩ => ⟨he, (hG.out.2.1.ext x).ck, hG.out.1.ext x, hG.out.2.1.ext x⟩
                      have HSp : Hid (∀ w9, Hid (Inn F3 w w9 t q R.2.1 R.2.1 (.slice a R.1.length cap) R.1 w3.heap.size ∧ Sd F3 w9 P X W.heap.size n at_ (some ⟨b0, off, none⟩) lt ct ll cl mo R (.slice a3 R.1.length c3) (W.heap.size + 1)) → Calls Try.prog 22 #[.slice a3 R.1.length c3] w9 fun e w' => (∃ u, e = .returned u) ∧ Hid (PX (fun j => j = P ∨ j = X) w w' t q R.2.1 R.2.1 ∧ Pc w' P n at_ (some ⟨b0, off, none⟩) lt ct ll cl)) := fun w9 h => by
                        refine (spoil_nums (.slice a3 R.1.length c3) w9 ⟨R.1, rfl, h.out.2.lr⟩ (by omega)).mono ?_
                        rintro e w' ⟨he, tt⟩
                        have hge : ∀ g, (Value.slice a3 R.1.length c3).ownBlock = some g → W.heap.size + 1 ≤ g := fun g hg => (h.out.2.lr.lt g hg).1
                        have hw := HlWs.out
                        have p9 := h.out.1.px.other tt (fun g hg => ⟨.inl (h.out.2.fl g hg), by have := hge g hg; omega⟩)
                        have nP : ¬ (Value.slice a3 R.1.length c3).ownBlock = some P := fun e => by have := hge P e; omega
                        exact ⟨he, p9.mono (fun j hj => .inl ((HI0.out.2.2 j).2 (.inl (.inl hj)))), tt.keepc nP h.out.2.pc.1, tt.keepc nP h.out.2.pc.2.1, tt.keepc nP h.out.2.pc.2.2⟩
                      have HBR : Hid (R.2.1.T ≤ 256 * (k + 1) ∧ R.2.2 ≤ 256 * (k + 1)) := by
                        have b1 := HRT.out
                        have b2 := HBd.out
                        have b3 := hG.out.2.2
                        refine ⟨by omega, by omega⟩
                      clear hG HI0 HR0 HRT HlWs
                      go_wp2_with (first | (go_at_call 8; refine (HN.out _ _).mono ?_; rintro e wx ⟨rfl, hwx⟩; have hwy := hwx.symm; clear hwx; subst hwy) | (go_at_call 21; refine HEq.out.mono ?_; rintro e w9 ⟨rfl, ck9, p9⟩) | (go_at_call 22; refine (HSp.out _ p9).mono ?_; rintro e w10 ⟨⟨u10, rfl⟩, p10⟩))
                      go_meet
                      exact ⟨R.2.2, R.2.1, rfl, p10.out.1, p10.out.2, HBR.out.1, HBR.out.2⟩
                  · have HRB : Hid (∀ fv, Calls Try.prog 14 #[.pointer (some ⟨t, 0, none⟩), .int .i64 (M k), fv] W fun e w' => e = .returned (.tuple #[.slice none 0 0, .int .i64 1]) ∧ w' = W) := fun fv => run_bad (M k) fv t W hv
                    by_cases hb : M k < 0
                    · clear hv
                      go_wp2_with (first | (go_at_call 14; refine (HRB.out _).mono ?_; rintro e wx ⟨rfl, hwx⟩; have hwy := hwx.symm; clear hwx; subst hwy) | (go_at_call 8; refine (HN.out _ _).mono ?_; rintro e wx ⟨rfl, hwx⟩; have hwy := hwx.symm; clear hwx; subst hwy))
                      go_meet
                      exact ⟨m, s, rfl, HK1.out.1, HK1.out.2, by have := HBd.out.1; omega, by have := HBd.out.2; omega⟩
                    · have hb2 : M k > 256 := by omega
                      clear hv
                      go_wp2_with (first | (go_at_call 14; refine (HRB.out _).mono ?_; rintro e wx ⟨rfl, hwx⟩; have hwy := hwx.symm; clear hwx; subst hwy) | (go_at_call 8; refine (HN.out _ _).mono ?_; rintro e wx ⟨rfl, hwx⟩; have hwy := hwx.symm; clear hwx; subst hwy))
                      go_meet
                      exact ⟨m, s, rfl, HK1.out.1, HK1.out.2, by have := HBd.out.1; omega, by have := HBd.out.2; omega⟩
              · as_aux_lemma =>
                  by_cases hv : 0 ≤ M k ∧ M k ≤ 256
                  · obtain ⟨mo, hmo⟩ : ∃ mo : Nat, M k = mo := ⟨(M k).toNat, by omega⟩
                    rw [hmo] at hX1 hv
                    clear hmo
                    have hn1 : ¬ (mo : Int) < 0 := by omega
                    have hn2 : ¬ (mo : Int) > 256 := by omega
                    have hn3 : mo ≤ 256 := by omega
                    have lW := HK1.out.1.x.size
                    have lP := World.block_lt_of_cell? W ⟨P, 0, none⟩ HK1.out.2.1
                    have lX := World.block_lt_of_cell? W ⟨X, 1, none⟩ hX1
                    simp only at lP lX
                    have x2 : Ext W (W.alloc (.cells #[.int .i64 (m : Int)] 3)) := (Ext.refl W).alloc _
                    have p2 := HK1.out.1.new x2 (F' := fun j => j = W.heap.size) (fun j e => by rw [e]; simp)
                    have ik2 : Ik w P W.heap.size n at_ (some ⟨b0, off, none⟩) lt ct ll cl m (W.alloc (.cells #[.int .i64 (m : Int)] 3)) := ⟨x2.keepc HK1.out.2.1, x2.keepc HK1.out.2.2.1, x2.keepc HK1.out.2.2.2, by simp [go_sem], by simp [go_sem], HK1.out.1.x.trans x2, by omega, lW⟩
                    have hbd := HBd.out
                    have HRun := px_run mo m p2 (by omega) (.inl rfl) ik2 HTr.out HL.out hn3 (by omega) (by omega)
                    have hrT := runs_T (fun k _ => tell lt L G k) mo m s
                    have hfew := HK1.out.1.few
                    obtain ⟨R, hR⟩ : ∃ R, R = runs (fun k _ => tell lt L G k) mo m s := ⟨_, rfl⟩
                    rw [← hR] at HRun hrT
                    have HRT : Hid (R.2.1.T ≤ s.T + (mo : Nat) ∧ R.1.length ≤ mo) := ⟨hrT.1, hrT.2.2.2⟩
                    have HR0 : Hid (Rr (fun k _ => tell lt L G k) R mo m m s []) := ⟨by simp, by simp; omega, by rw [hR]; simp⟩
                    have hX12 := x2.keepc hX1
                    have HnK : Hid (¬ (W.heap.size = P ∨ W.heap.size = X)) := by show ¬ _; omega
                    have hmf : ∀ (fn : Fn) (first cap : Array Value) (w : World), (Instr.makeFunc fn first cap).run Try.prog w = .ok (.func fn first cap) w := fun _ _ _ _ => rfl
                    have HlWs : Hid (w.heap.size ≤ W.heap.size ∧ P < W.heap.size) := ⟨lW, lP⟩
                    clear HK1 hv p2 ik2 hbd hrT hfew hR lW lP lX x2
                    have HlW : Hid ((W.alloc (.cells #[.int .i64 (m : Int)] 3)).heap.size = W.heap.size + 1) := by show _ = _; simp
                    go_upto_region 36 with fail
                    clear hX1
                    generalize W.alloc (.cells #[.int .i64 (m : Int)] 3) = W2 at *
                    rw [HlW.out] at HRun
                    go_upto_region 37 with (go_at_call 14; refine HRun.mono ?_; rintro e w3 ⟨a3, c3, rfl, p3, row3, ik3, kp3⟩)
                    obtain ⟨F3, hF3⟩ : ∃ F3 : Nat → Prop, F3 = fun j => ((j = P ∨ j = X) ∨ j = W.heap.size) ∨ (Value.slice a3 R.1.length c3).ownBlock = some j := ⟨_, rfl⟩
                    have HI0 : Hid (Inn F3 w w3 t q R.2.1 s (.slice none 0 0) [] w3.heap.size ∧ Sd F3 w3 P X W.heap.size n at_ (some ⟨b0, off, none⟩) lt ct ll cl mo R (.slice a3 R.1.length c3) (W.heap.size + 1) ∧ ∀ j, F3 j ↔ ((j = P ∨ j = X) ∨ j = W.heap.size) ∨ (Value.slice a3 R.1.length c3).ownBlock = some j) := by
                      refine ⟨⟨?_, World.ownsRow_nil _ _ _ _, ik3.x.size, fun j _ e => by simp [Value.ownBlock] at e, Nat.le_refl _⟩, ⟨⟨ik3.p0, ik3.p1, ik3.p2⟩, kp3 _ _ _ (.inr rfl) hX12, ik3.k0, row3, ?_, ?_, ?_, ?_⟩, fun j => by rw [hF3]⟩
                      · rw [hF3]
                        exact p3.mono (fun j o => by
                          rcases o with o | o
                          · exact o
                          · simp [Value.ownBlock] at o)
                      · rw [hF3]; exact .inl (.inl (.inl rfl))
                      · rw [hF3]; exact .inl (.inl (.inr rfl))
                      · rw [hF3]; exact .inl (.inr rfl)
                      · intro g hg; rw [hF3]; exact .inr hg
                    clear hF3 p3 row3 ik3 kp3 HRun hX12
                    go_upto_block 3 with fail
                    go_cut [6, 15, 16, 17] from 156 to 180 (fun s6 s15 _ _ wx => ∃ (a : Option Addr) (cap : Nat), s6 = .int .i64 (R.2.2 : Nat) ∧ s15 = .slice a R.1.length cap ∧ Hid (Inn F3 w wx t q R.2.1 R.2.1 (.slice a R.1.length cap) R.1 w3.heap.size ∧ Sd F3 wx P X W.heap.size n at_ (some ⟨b0, off, none⟩) lt ct ll cl mo R (.slice a3 R.1.length c3) (W.heap.size + 1) ∧ R.2.2 = m + R.1.length))
                    case first =>
                      go_wp2_with fail
                      go_loopw [6, 15] (fun s6 s15 wr => ∃ (m' : Nat) (a : Option Addr) (cap : Nat) (l : List Int) (r' : St), s6 = .int .i64 m' ∧ s15 = .slice a l.length cap ∧ l.length ≤ mo ∧ Hid (Inn F3 w wr t q R.2.1 r' (.slice a l.length cap) l w3.heap.size ∧ Sd F3 wr P X W.heap.size n at_ (some ⟨b0, off, none⟩) lt ct ll cl mo R (.slice a3 R.1.length c3) (W.heap.size + 1) ∧ Rr (fun k _ => tell lt L G k) R mo m m' r' l)) (fun _ s15 _ => mo - lenV s15)
                      case atStart => exact ⟨m, none, 0, [], s, rfl, rfl, Nat.zero_le _, HI0.out.1, HI0.out.2.1, HR0.out⟩
                      case round =>
                        obtain ⟨m', a, cap, l, r', rfl, rfl, hlm, hI⟩ := hrel
                        have cx := hI.out.2.1.cx
                        by_cases hlt2 : l.length < mo
                        · have hlt3 : (l.length : Int) < (mo : Int) := by omega
                          have HNx := px_nextB hI.out.1.px
                          go_upto_region 40 with (go_at_call 19; refine HNx.mono ?_; intro e w4 hnx; rcases hnx with ⟨hlo, rfl, hw4⟩ | ⟨i, hlo, rfl, hil, p4, kb4⟩)
                          · subst hw4
                            obtain ⟨e1, e2, e3⟩ := hI.out.2.2.none hlo
                            have HF : Hid (Inn F3 w w4 t q R.2.1 R.2.1 (.slice a R.1.length cap) R.1 w3.heap.size ∧ Sd F3 w4 P X W.heap.size n at_ (some ⟨b0, off, none⟩) lt ct ll cl mo R (.slice a3 R.1.length c3) (W.heap.size + 1) ∧ R.2.2 = m + R.1.length) := by
                              obtain ⟨i1, i2, i3⟩ := hI.out
                              rw [← e2, ← e1] at i1
                              exact ⟨i1, i2, by rw [e3, e1]; exact i3.mm⟩
                            have HE1 : Hid (R.1.length = l.length ∧ R.2.2 = m') := ⟨by rw [e1], e3⟩
                            clear hI e1 e2 e3 HNx hlo
                            go_wp2_with fail
                            go_meet
                            exact ⟨a, cap, by rw [HE1.out.2], by rw [HE1.out.1], HF⟩
                          · have I4 : Inn F3 w w4 t q R.2.1 { r' with A := r'.A.set i false } (.slice a l.length cap) l w3.heap.size := hI.out.1.step p4 kb4
                            have S4 := hI.out.2.1.keep (w' := w4) ⟨kb4.1, fun j hj => kb4.2 j (.inl hj)⟩
                            have R4 := hI.out.2.2.step hlt2 hlo
                            have HTu := turn_any n at_ (some ⟨b0, off, none⟩) lt ct ll cl U L G m' w w4 I4.px.x HTr.out
                            have htl := tell_in HTr.out HL.out m'
                            have hss := hI.out.2.2.ss
                            have hmm := hI.out.2.2.mm
                            obtain ⟨q0, q1, q2⟩ := S4.pc
                            have hni : ¬ ((i : Nat) : Int) < 0 := by omega
                            have HmB : Hid (m' ≤ 100000) := by have := HBd.out.2; show _ ≤ _; omega
                            have hmx : (m' : Int) ≤ 9223372036854775806 := by have := HmB.out; omega
                            have HR4 : Hid (Rr (fun k _ => tell lt L G k) R mo m (m' + 1) (heeded { r' with A := r'.A.set i false } i (tell lt L G m').1 (tell lt L G m').2) (l ++ [(i : Int)])) := R4
                            have HI4 : Hid (Inn F3 w w4 t q R.2.1 { r' with A := r'.A.set i false } (.slice a l.length cap) l w3.heap.size ∧ Sd F3 w4 P X W.heap.size n at_ (some ⟨b0, off, none⟩) lt ct ll cl mo R (.slice a3 R.1.length c3) (W.heap.size + 1)) := ⟨I4, S4⟩
                            have HSl : Hid (r'.S.length ≤ 1000 ∧ (tell lt L G m').1.length ≤ 40 ∧ -9223372036854775808 ≤ (tell lt L G m').2 ∧ (tell lt L G m').2 ≤ 9223372036854775807) := ⟨by omega, htl⟩
                            clear hI HNx p4 kb4 I4 S4 R4 htl hss hmm hlo hil cx
                            obtain ⟨tl, htl⟩ : ∃ tl, tl = (tell lt L G m').1 := ⟨_, rfl⟩
                            obtain ⟨ty, hty⟩ : ∃ ty, ty = (tell lt L G m').2 := ⟨_, rfl⟩
                            rw [← htl, ← hty] at HTu HR4 HSl
                            clear htl hty
                            go_upto_region 42 with (go_at_call 17; refine HTu.mono ?_; rintro e w5 ⟨a5, c5, rfl, r5, x5⟩)
                            have x6 : Ext w4 (w5.alloc (.cells #[.slice a5 tl.length c5, .int .i64 ty] 45)) := x5.trans ((Ext.refl w5).alloc _)
                            have Y0 : (w5.alloc (.cells #[.slice a5 tl.length c5, .int .i64 ty] 45)).cell? ⟨w5.heap.size, 0, none⟩ = some (.slice a5 tl.length c5) := by simp [go_sem]
                            have Y1 : (w5.alloc (.cells #[.slice a5 tl.length c5, .int .i64 ty] 45)).cell? ⟨w5.heap.size, 1, none⟩ = some (.int .i64 ty) := by simp [go_sem]
                            have I6 := HI4.out.1.ext x6
                            have S6 := HI4.out.2.ext x6
                            have HRa : Hid (Calls Try.prog 20 #[.pointer (some ⟨q, 0, none⟩), .int .i64 (i : Nat), .slice a5 tl.length c5, .int .i64 ty] (w5.alloc (.cells #[.slice a5 tl.length c5, .int .i64 ty] 45)) fun e w' => (∃ y, e = .returned y) ∧ Hid (Inn F3 w w' t q R.2.1 (heeded { r' with A := r'.A.set i false } i tl ty) (.slice a l.length cap) l w3.heap.size ∧ Sd F3 w' P X W.heap.size n at_ (some ⟨b0, off, none⟩) lt ct ll cl mo R (.slice a3 R.1.length c3) (W.heap.size + 1))) :=
                              (px_ranB i (.slice a5 tl.length c5) tl ty I6.px r5 HSl.out.1 (by have := HSl.out.2.1; omega) HSl.out.2.2).mono fun e w' ⟨he, p, kb⟩ => ⟨he, I6.step p kb, S6.keep ⟨kb.1, fun j hj => kb.2 j (.inl hj)⟩⟩
                            clear HTu HI4 x5 x6 r5 I6 S6 q0 q1 q2
                            generalize w5.alloc (.cells #[.slice a5 tl.length c5, .int .i64 ty] 45) = W6 at *
                            generalize w5.heap.size = Y at *
                            go_upto_region 44 with (go_at_call 20; refine HRa.out.mono ?_; rintro e w7 ⟨⟨y7, rfl⟩, I7⟩)
                            have row7 := I7.out.1.row
                            have hb : w3.heap.size ≤ w7.heap.size + 1 := by have := I7.out.1.hS; omega
                            have h63 : l.length + 1 ≤ maxLen := by unfold maxLen; omega
                            have hby : (l.length + 1) * 8 ≤ 140737488355328 := by omega
                            clear HRa Y0 Y1
                            go_wp2_with (at_builtin; refine wpList_append_lies _ rfl (.tmp 177) (.tmp 179) 40 rfl w3.heap.size Ei i0 (.int .i64 0) 1 8 Try.underlying40 hi0 hz0 hz1 hz2 rfl (by decide) _ l.length (nums l) rfl (by exact row7.alloc _) ⟨w7.heap.size, 0, none⟩ 1 1 [.int .i64 (i : Nat)] rfl rfl (by exact one_new w7 _ _) (by simp [Value.oneCell']) (by decide) h63 hby (by simpa using hb) (w7.heap.size + 1) (by simp) ?_; intro g' cap' w8 hown' hg' hgb hgl; have R8 : Hid (Inn F3 w w8 t q R.2.1 (heeded { r' with A := r'.A.set i false } i tl ty) (.slice (some ⟨g', 0, none⟩) (l ++ [(i : Int)]).length cap') (l ++ [(i : Int)]) w3.heap.size ∧ Sd F3 w8 P X W.heap.size n at_ (some ⟨b0, off, none⟩) lt ct ll cl mo R (.slice a3 R.1.length c3) (W.heap.size + 1)) := (by obtain ⟨j1, j2⟩ := I7.out.1.app _ hg' hown' hgb; exact ⟨j1, I7.out.2.keep j2⟩); clear hown' hg' hgb hgl)
                            have hll : (l ++ [(i : Int)]).length = l.length + 1 := by simp
                            go_roundw
                            case measure => simp [lenV]; omega
                            case rel => exact ⟨m' + 1, _, cap', l ++ [(i : Int)], _, by simp, by rw [hll], by rw [hll]; omega, R8.out.1, R8.out.2, HR4.out⟩
                        · have hlt3 : ¬ (l.length : Int) < (mo : Int) := by omega
                          obtain ⟨e1, e2, e3⟩ := hI.out.2.2.full hlt2
                          have HF : Hid (Inn F3 w wr t q R.2.1 R.2.1 (.slice a R.1.length cap) R.1 w3.heap.size ∧ Sd F3 wr P X W.heap.size n at_ (some ⟨b0, off, none⟩) lt ct ll cl mo R (.slice a3 R.1.length c3) (W.heap.size + 1) ∧ R.2.2 = m + R.1.length) := by
                            obtain ⟨i1, i2, i3⟩ := hI.out
                            rw [← e2, ← e1] at i1
                            exact ⟨i1, i2, by rw [e3, e1]; exact i3.mm⟩
                          have HE1 : Hid (R.1.length = l.length ∧ R.2.2 = m') := ⟨by rw [e1], e3⟩
                          clear hI e1 e2 e3
                          go_wp2_with fail
                          go_meet
                          exact ⟨a, cap, by rw [HE1.out.2], by rw [HE1.out.1], HF⟩
                    case rest =>
                      obtain ⟨a, cap, rfl, rfl, hG⟩ := hcut
                      have hRl : R.1.length ≤ 256 := by have := HRT.out.2; omega
                      have HEq : Hid (Calls Try.prog 21 #[.slice a3 R.1.length c3, .slice a R.1.length cap] wc fun e w' => e = .returned (.bool true) ∧ w'.cell? ⟨W.heap.size, 0, none⟩ = some (.int .i64 (R.2.2 : Nat)) ∧ Hid (Inn F3 w w' t q R.2.1 R.2.1 (.slice a R.1.length cap) R.1 w3.heap.size ∧ Sd F3 w' P X W.heap.size n at_ (some ⟨b0, off, none⟩) lt ct ll cl mo R (.slice a3 R.1.length c3) (W.heap.size + 1))) :=
                        (eq_nums (l := R.1) _ _ wc (rdi_row hG.out.2.1.lr) (rdi_row hG.out.1.row) (by omega)).mono fun e w' ⟨he, x⟩ => ⟨he, (hG.out.2.1.ext x).ck, hG.out.1.ext x, hG.out.2.1.ext x⟩
                      have HSp : Hid (∀ w9, Hid (Inn F3 w w9 t q R.2.1 R.2.1 (.slice a R.1.length cap) R.1 w3.heap.size ∧ Sd F3 w9 P X W.heap.size n at_ (some ⟨b0, off, none⟩) lt ct ll cl mo R (.slice a3 R.1.length c3) (W.heap.size + 1)) → Calls Try.prog 22 #[.slice a3 R.1.length c3] w9 fun e w' => (∃ u, e = .returned u) ∧ Hid (PX (fun j => j = P ∨ j = X) w w' t q R.2.1 R.2.1 ∧ Pc w' P n at_ (some ⟨b0, off, none⟩) lt ct ll cl)) := fun w9 h => by
                        refine (spoil_nums (.slice a3 R.1.length c3) w9 ⟨R.1, rfl, h.out.2.lr⟩ (by omega)).mono ?_
                        rintro e w' ⟨he, tt⟩
                        have hge : ∀ g, (Value.slice a3 R.1.length c3).ownBlock = some g → W.heap.size + 1 ≤ g := fun g hg => (h.out.2.lr.lt g hg).1
                        have hw := HlWs.out
                        have p9 := h.out.1.px.other tt (fun g hg => ⟨.inl (h.out.2.fl g hg), by have := hge g hg; omega⟩)
                        have nP : ¬ (Value.slice a3 R.1.length c3).ownBlock = some P := fun e => by have := hge P e; omega
                        exact ⟨he, p9.mono (fun j hj => .inl ((HI0.out.2.2 j).2 (.inl (.inl hj)))), tt.keepc nP h.out.2.pc.1, tt.keepc nP h.out.2.pc.2.1, tt.keepc nP h.out.2.pc.2.2⟩
                      have HBR : Hid (R.2.1.T ≤ 256 * (k + 1) ∧ R.2.2 ≤ 256 * (k + 1)) := by
                        have b1 := HRT.out
                        have b2 := HBd.out
                        have b3 := hG.out.2.2
                        refine ⟨by omega, by omega⟩
                      clear hG HI0 HR0 HRT HlWs
                      go_wp2_with (first | (go_at_call 8; refine (HN.out _ _).mono ?_; rintro e wx ⟨rfl, hwx⟩; have hwy := hwx.symm; clear hwx; subst hwy) | (go_at_call 21; refine HEq.out.mono ?_; rintro e w9 ⟨rfl, ck9, p9⟩) | (go_at_call 22; refine (HSp.out _ p9).mono ?_; rintro e w10 ⟨⟨u10, rfl⟩, p10⟩))
                      go_meet
                      exact ⟨R.2.2, R.2.1, rfl, p10.out.1, p10.out.2, HBR.out.1, HBR.out.2⟩
                  · have HRB : Hid (∀ fv, Calls Try.prog 14 #[.pointer (some ⟨t, 0, none⟩), .int .i64 (M k), fv] W fun e w' => e = .returned (.tuple #[.slice none 0 0, .int .i64 1]) ∧ w' = W) := fun fv => run_bad (M k) fv t W hv
                    by_cases hb : M k < 0
                    · clear hv
                      go_wp2_with (first | (go_at_call 14; refine (HRB.out _).mono ?_; rintro e wx ⟨rfl, hwx⟩; have hwy := hwx.symm; clear hwx; subst hwy) | (go_at_call 8; refine (HN.out _ _).mono ?_; rintro e wx ⟨rfl, hwx⟩; have hwy := hwx.symm; clear hwx; subst hwy))
                      go_meet
                      exact ⟨m, s, rfl, HK1.out.1, HK1.out.2, by have := HBd.out.1; omega, by have := HBd.out.2; omega⟩
                    · have hb2 : M k > 256 := by omega
                      clear hv
                      go_wp2_with (first | (go_at_call 14; refine (HRB.out _).mono ?_; rintro e wx ⟨rfl, hwx⟩; have hwy := hwx.symm; clear hwx; subst hwy) | (go_at_call 8; refine (HN.out _ _).mono ?_; rintro e wx ⟨rfl, hwx⟩; have hwy := hwx.symm; clear hwx; subst hwy))
                      go_meet
                      exact ⟨m, s, rfl, HK1.out.1, HK1.out.2, by have := HBd.out.1; omega, by have := HBd.out.2; omega⟩
              · as_aux_lemma =>
                  have z0 : ¬ qd = 0 := by omega
                  have z1 : ¬ qd = 1 := by omega
                  have z2 : ¬ qd = 2 := by omega
                  have z3 : ¬ qd = 3 := by omega
                  have z4 : ¬ qd = 4 := by omega
                  by_cases hv : tickOk s (M k)
                  · have HRt : Hid (∀ j, Calls Try.prog 23 #[.pointer (some ⟨q, 0, none⟩), .int .i64 (M k)] (W.drewN j) fun e w' => (∃ x, e = .returned x) ∧ w'.cell? ⟨X, 1, none⟩ = some (.int .i64 (M k)) ∧ Hid (PX (fun j => j = P ∨ j = X) w w' t q s (ticked s (M k)) ∧ Pc w' P n at_ (some ⟨b0, off, none⟩) lt ct ll cl)) := fun j =>
                      (px_rtick (M k) (HK1.out.1.ext (drewN_ext j)) hv (by have := HK1.out.1.few; omega)).mono fun e w' ⟨he, p, kp⟩ => ⟨he, kp _ _ _ (.inr rfl) ((drewN_ext j).keepc hX1), p, (HK1.out.2.ext (drewN_ext j)).keep kp (.inl rfl)⟩
                    have HTt : Hid (∀ w', Hid (PX (fun j => j = P ∨ j = X) w w' t q s (ticked s (M k)) ∧ Pc w' P n at_ (some ⟨b0, off, none⟩) lt ct ll cl) → Calls Try.prog 24 #[.pointer (some ⟨t, 0, none⟩), .int .i64 (M k)] w' fun e w'' => e = .returned (.int .i64 0) ∧ Hid (PX (fun j => j = P ∨ j = X) w w'' t q (ticked s (M k)) (ticked s (M k)) ∧ Pc w'' P n at_ (some ⟨b0, off, none⟩) lt ct ll cl)) := fun w' h =>
                      (px_tick (M k) h.out.1 hv (by have := HBd.out.1; omega)).mono fun e w'' ⟨he, p, kp⟩ => ⟨he, p, h.out.2.keep kp (.inl rfl)⟩
                    have hwr : IntKind.i64.wrap (s.now + M k) = s.now + M k := by rw [IntKind.wrap_i64]; have := HK1.out.1.nw; unfold tickOk at hv; omega
                    have HV : Hid (0 ≤ M k ∧ M k ≤ 1000 ∧ s.now + M k ≤ 1099511627776) := hv
                    have HT' : Hid ((ticked s (M k)).T = s.T) := rfl
                    have cq := HK1.out.1.c1
                    clear HK1 hv
                    generalize ticked s (M k) = s1 at *
                    generalize s.now = nw at *
                    go_upto_region 16 with fail
                    have d1 : decide (M k < 0) = false := decide_eq_false (by have := HV.out; omega)
                    have d2 : decide (1000 < M k) = false := decide_eq_false (by have := HV.out; omega)
                    have d3 : decide (1099511627776 < nw + M k) = false := decide_eq_false (by have := HV.out; omega)
                    go_quiet (fail)
                    go_wp2_with (first | (go_at_call 23; refine (HRt.out _).mono ?_; rintro e w1 ⟨⟨x1, rfl⟩, hX1, p1⟩) | (go_at_call 24; refine (HTt.out _ p1).mono ?_; rintro e w2 ⟨rfl, p2⟩) | (go_at_call 8; refine (HN.out _ _).mono ?_; rintro e wx ⟨rfl, hwx⟩; have hwy := hwx.symm; clear hwx; subst hwy))
                    go_meet
                    exact ⟨m, s1, rfl, p2.out.1, p2.out.2, by have := HBd.out.1; have := HT'.out; omega, by have := HBd.out.2; omega⟩
                  · by_cases hb : M k < 0
                    · have HTb : Hid (∀ j, Calls Try.prog 24 #[.pointer (some ⟨t, 0, none⟩), .int .i64 (M k)] (W.drewN j) fun e w' => e = .returned (.int .i64 1) ∧ w' = W.drewN j) := fun j => px_tick_bad (M k) (HK1.out.1.ext (drewN_ext j)) hv
                      have HE : Hid (∀ j, PX (fun j => j = P ∨ j = X) w (W.drewN j) t q s s ∧ Pc (W.drewN j) P n at_ (some ⟨b0, off, none⟩) lt ct ll cl) := fun j => ⟨HK1.out.1.ext (drewN_ext j), HK1.out.2.ext (drewN_ext j)⟩
                      have cq := HK1.out.1.c1
                      clear HK1 hv
                      generalize s.now = nw at *
                      go_upto_region 16 with fail
                      have d1 : decide (M k < 0) = true := decide_eq_true hb
                      go_quiet (fail)
                      go_wp2_with (first | (go_at_call 24; refine (HTb.out _).mono ?_; rintro e wx ⟨rfl, hwx⟩; have hwy := hwx.symm; clear hwx; subst hwy) | (go_at_call 8; refine (HN.out _ _).mono ?_; rintro e wx ⟨rfl, hwx⟩; have hwy := hwx.symm; clear hwx; subst hwy))
                      go_meet
                      exact ⟨m, s, rfl, (HE.out _).1, (HE.out _).2, by have := HBd.out.1; omega, by have := HBd.out.2; omega⟩
                    · by_cases hb2 : 1000 < M k
                      · have HTb : Hid (∀ j, Calls Try.prog 24 #[.pointer (some ⟨t, 0, none⟩), .int .i64 (M k)] (W.drewN j) fun e w' => e = .returned (.int .i64 1) ∧ w' = W.drewN j) := fun j => px_tick_bad (M k) (HK1.out.1.ext (drewN_ext j)) hv
                        have HE : Hid (∀ j, PX (fun j => j = P ∨ j = X) w (W.drewN j) t q s s ∧ Pc (W.drewN j) P n at_ (some ⟨b0, off, none⟩) lt ct ll cl) := fun j => ⟨HK1.out.1.ext (drewN_ext j), HK1.out.2.ext (drewN_ext j)⟩
                        have cq := HK1.out.1.c1
                        clear HK1 hv
                        generalize s.now = nw at *
                        go_upto_region 16 with fail
                        have d1 : decide (M k < 0) = false := decide_eq_false (by omega)
                        have d2 : decide (1000 < M k) = true := decide_eq_true hb2
                        go_quiet (fail)
                        go_wp2_with (first | (go_at_call 24; refine (HTb.out _).mono ?_; rintro e wx ⟨rfl, hwx⟩; have hwy := hwx.symm; clear hwx; subst hwy) | (go_at_call 8; refine (HN.out _ _).mono ?_; rintro e wx ⟨rfl, hwx⟩; have hwy := hwx.symm; clear hwx; subst hwy))
                        go_meet
                        exact ⟨m, s, rfl, (HE.out _).1, (HE.out _).2, by have := HBd.out.1; omega, by have := HBd.out.2; omega⟩
                      · have hb3 : 1099511627776 < s.now + M k := by unfold tickOk at hv; omega
                        have hwr : IntKind.i64.wrap (s.now + M k) = s.now + M k := by rw [IntKind.wrap_i64]; have := HK1.out.1.nw; omega
                        have HTb : Hid (∀ j, Calls Try.prog 24 #[.pointer (some ⟨t, 0, none⟩), .int .i64 (M k)] (W.drewN j) fun e w' => e = .returned (.int .i64 1) ∧ w' = W.drewN j) := fun j => px_tick_bad (M k) (HK1.out.1.ext (drewN_ext j)) hv
                        have HE : Hid (∀ j, PX (fun j => j = P ∨ j = X) w (W.drewN j) t q s s ∧ Pc (W.drewN j) P n at_ (some ⟨b0, off, none⟩) lt ct ll cl) := fun j => ⟨HK1.out.1.ext (drewN_ext j), HK1.out.2.ext (drewN_ext j)⟩
                        have cq := HK1.out.1.c1
                        clear HK1 hv
                        generalize s.now = nw at *
                        go_upto_region 16 with fail
                        have d1 : decide (M k < 0) = false := decide_eq_false (by omega)
                        have d2 : decide (1000 < M k) = false := decide_eq_false (by omega)
                        have d3 : decide (1099511627776 < nw + M k) = true := decide_eq_true hb3
                        go_quiet (fail)
                        go_wp2_with (first | (go_at_call 24; refine (HTb.out _).mono ?_; rintro e wx ⟨rfl, hwx⟩; have hwy := hwx.symm; clear hwx; subst hwy) | (go_at_call 8; refine (HN.out _ _).mono ?_; rintro e wx ⟨rfl, hwx⟩; have hwy := hwx.symm; clear hwx; subst hwy))
                        go_meet
                        exact ⟨m, s, rfl, (HE.out _).1, (HE.out _).2, by have := HBd.out.1; omega, by have := HBd.out.2; omega⟩
            case rest =>
              as_aux_lemma =>
                obtain ⟨m', s', rfl, hG⟩ := hcut
                clear HK1 hX1 HBd HM
                obtain ⟨p, pc, hT', hm'⟩ := hG.out
                have cq := p.c1
                have p1 := p.ext (drewN_ext 1)
                have HNow := px_now p1
                have HAw : Hid (Calls Try.prog 26 #[.pointer (some ⟨t, 0, none⟩)] (wc.drewN 1) fun e w' => ∃ a cap, e = .returned (.slice a (ups s'.A s'.A.length).length cap) ∧ Hid (PX (fun j => j = P ∨ j = X) w w' t q s' s' ∧ Pc w' P n at_ (some ⟨b0, off, none⟩) lt ct ll cl ∧ RdI w' (.slice a (ups s'.A s'.A.length).length cap) (ups s'.A s'.A.length))) := (px_awake p1).mono fun e w' ⟨a, c, he, q1, q2⟩ => ⟨a, c, he, p1.ext q2, (pc.ext (drewN_ext 1)).ext q2, q1⟩
                have HLi : Hid (∀ w1 x, Hid (PX (fun j => j = P ∨ j = X) w w1 t q s' s' ∧ Pc w1 P n at_ (some ⟨b0, off, none⟩) lt ct ll cl ∧ RdI w1 x (ups s'.A s'.A.length)) → Calls Try.prog 27 #[.pointer (some ⟨q, 0, none⟩)] w1 fun e w' => ∃ a cap, e = .returned (.slice a (ups s'.A s'.A.length).length cap) ∧ Hid (PX (fun j => j = P ∨ j = X) w w' t q s' s' ∧ Pc w' P n at_ (some ⟨b0, off, none⟩) lt ct ll cl ∧ RdI w' x (ups s'.A s'.A.length) ∧ RdI w' (.slice a (ups s'.A s'.A.length).length cap) (ups s'.A s'.A.length))) := fun w1 x h => (px_rlist h.out.1).mono fun e w' ⟨a, c, he, q1, q2⟩ => ⟨a, c, he, h.out.1.ext q2, h.out.2.1.ext q2, h.out.2.2.ext q2, q1⟩
                have HEq : Hid (∀ w1 x y, Hid (PX (fun j => j = P ∨ j = X) w w1 t q s' s' ∧ Pc w1 P n at_ (some ⟨b0, off, none⟩) lt ct ll cl ∧ RdI w1 x (ups s'.A s'.A.length) ∧ RdI w1 y (ups s'.A s'.A.length)) → Calls Try.prog 21 #[x, y] w1 fun e w' => e = .returned (.bool true) ∧ Hid (PX (fun j => j = P) w w' t q s' s' ∧ Pc w' P n at_ (some ⟨b0, off, none⟩) lt ct ll cl)) := fun w1 x y h => (eq_nums x y w1 h.out.2.2.1 h.out.2.2.2 (by have := ups_le s'.A s'.A.length; have := h.out.1.n; omega)).mono fun e w' ⟨he, q2⟩ => ⟨he, (h.out.1.ext q2).mono (fun _ z => .inl z), h.out.2.1.ext q2⟩
                have HB' : Hid (s'.T ≤ 256 * (k + 1) ∧ m' ≤ 256 * (k + 1)) := ⟨hT', hm'⟩
                clear hG p p1 pc hT' hm'
                generalize hnow : s'.now = nw at *
                have HNW : Hid (s'.now = nw) := hnow
                clear hnow
                go_wp2_with fail
                have hnow := HNW.out
                go_region_held (fun w' => w'.cell? ⟨q, 1, none⟩ = some (.int .i64 nw)) (first | (go_keep; done) | skip) (first | (go_at_call 25; refine HNow.mono ?_; rintro e wx ⟨rfl, hwx⟩; subst hwx) | (go_at_call 26; refine HAw.out.mono ?_; rintro e w4 ⟨a4, c4, rfl, p4⟩; have cq := p4.out.1.c1; rw [hnow] at cq) | (go_at_call 27; refine (HLi.out _ _ p4).mono ?_; rintro e w5 ⟨a5, c5, rfl, p5⟩; have cq := p5.out.1.c1; rw [hnow] at cq) | (go_at_call 21; refine (HEq.out _ _ _ p5).mono ?_; rintro e w6 ⟨rfl, p6⟩; have cq := p6.out.1.c1; rw [hnow] at cq))
                all_goals
                  go_wp2_with fail
                  go_roundw
                  case measure => simp [intOf]; omega
                  case rel => exact ⟨k + 1, m', s', by omega, by omega, by simp, rfl, ⟨p6.out.1, p6.out.2, by have := HB'.out.1; omega, by have := HB'.out.2; omega⟩⟩
          · have h40' : ¬ (k : Int) < 40 := by omega
            have HXe : Hid (Ext w wr) := hK.out.px.x
            clear hK
            go_wp2_with (first | (go_at_call 14; refine HRN.mono ?_; rintro e wx ⟨rfl, hwx⟩; have hwy := hwx.symm; clear hwx; subst hwy) | (go_at_call 8; refine (HN.out _ _).mono ?_; rintro e wx ⟨rfl, hwx⟩; have hwy := hwx.symm; clear hwx; subst hwy) | (go_at_call 9; refine (HWk.out _).mono ?_; rintro e w9 ⟨rfl, x9⟩))
            go_ret
            exact ⟨by simp, HXe.out.trans x9⟩
        · have hlt' : ¬ (k : Int) < (ll : Int) := by omega
          have HXe : Hid (Ext w wr) := hK.out.px.x
          clear hK
          go_wp2_with (first | (go_at_call 14; refine HRN.mono ?_; rintro e wx ⟨rfl, hwx⟩; have hwy := hwx.symm; clear hwx; subst hwy) | (go_at_call 8; refine (HN.out _ _).mono ?_; rintro e wx ⟨rfl, hwx⟩; have hwy := hwx.symm; clear hwx; subst hwy) | (go_at_call 9; refine (HWk.out _).mono ?_; rintro e w9 ⟨rfl, x9⟩))
          go_ret
          exact ⟨by simp, HXe.out.trans x9⟩
    · have HNew := snew_bad N w1 hN
      by_cases h1 : N < 1
      · clear hN
        go_wp2_with (first | (go_at_call 7; refine HNew.mono ?_; rintro e wx ⟨rfl, hwx⟩; have hwy := hwx.symm; clear hwx; subst hwy) | (go_at_call 8; refine (HN.out _ _).mono ?_; rintro e wx ⟨rfl, hwx⟩; have hwy := hwx.symm; clear hwx; subst hwy) | (go_at_call 9; refine (HWk.out _).mono ?_; rintro e w9 ⟨rfl, x9⟩))
        go_ret
        exact ⟨by simp, HX1.out.trans x9⟩
      · have h2 : N > 16 := by omega
        clear hN
        go_wp2_with (first | (go_at_call 7; refine HNew.mono ?_; rintro e wx ⟨rfl, hwx⟩; have hwy := hwx.symm; clear hwx; subst hwy) | (go_at_call 8; refine (HN.out _ _).mono ?_; rintro e wx ⟨rfl, hwx⟩; have hwy := hwx.symm; clear hwx; subst hwy) | (go_at_call 9; refine (HWk.out _).mono ?_; rintro e w9 ⟨rfl, x9⟩))
        go_ret
        exact ⟨by simp, HX1.out.trans x9⟩
end Go.Proofs.Ytehphgpkhfokhaa
