/- SchedTurns: its walk. -/
import Derived.Test.YtehphgpkhfokhaaUc
import Derived.Deep.CutBlock
namespace Go.Proofs.Ytehphgpkhfokhaa
open Go.RowKit Go.Conc
theorem gi_mem {l : List Int} {j : Nat} (h : j < l.length) : gi l j ∈ l := List.mem_of_getElem? (gi_at h)
theorem ups_in {A : List Bool} {n j : Nat} (h : j < (ups A n).length) : 0 ≤ gi (ups A n) j ∧ gi (ups A n) j < (n : Int) := by
  obtain ⟨i, h1, _, h3⟩ := mem_ups.1 (gi_mem h)
  omega
theorem ups_up {A : List Bool} {n j : Nat} (h0 : 0 < j) (h : j < (ups A n).length) : gi (ups A n) (j - 1) < gi (ups A n) j := by
  have := List.pairwise_iff_getElem.1 (ups_rise A n) (j - 1) j (by omega) h (by omega)
  have e1 : gi (ups A n) (j - 1) = (ups A n)[j - 1]'(by omega) := by simp [gi, show j - 1 < (ups A n).length by omega]
  have e2 : gi (ups A n) j = (ups A n)[j] := by simp [gi, h]
  rw [e1, e2]; exact this
/-- a table, a list that was told, and the script -/
def Kp (F : Nat → Prop) (w w' : World) (t : Nat) (s : St) (u : Value) (U : List Int) (P : Nat) (N : Int) : Prop := P1 F w w' t s ∧ RdG F w' u U ∧ w'.cell? ⟨P, 0, none⟩ = some (.int .i64 N) ∧ F P
section
variable {F : Nat → Prop} {w wr w' : World} {t : Nat} {s : St} {u : Value} {U : List Int} {P : Nat} {N : Int}
theorem RdG.ext {l : List Int} (h : RdG F wr u l) (x : Ext wr w') : RdG F w' u l := h.keep (fun _ _ _ _ hc => x.keepc hc)
theorem Kp.ext (h : Kp F w wr t s u U P N) (x : Ext wr w') : Kp F w w' t s u U P N := ⟨h.1.ext x, h.2.1.ext x, x.keepc h.2.2.1, h.2.2.2⟩
theorem Kp.keep {s' : St} (h : Kp F w wr t s u U P N) (p : P1 F w w' t s') (k : Keep F wr w') : Kp F w w' t s' u U P N := ⟨p, h.2.1.keep k, k _ _ _ h.2.2.2 h.2.2.1, h.2.2.2⟩
theorem kp_awake (h : Kp F w wr t s u U P N) {V : List Int} (hV : ups s.A s.A.length = V) :
    Calls Try.prog 26 #[.pointer (some ⟨t, 0, none⟩)] wr fun e w' => ∃ a cap, e = .returned (.slice a V.length cap) ∧ Hid (Kp F w w' t s u U P N) ∧ Hid (RdI w' (.slice a V.length cap) V) := by
  have := p1_awake h.1
  rw [hV] at this
  refine this.mono ?_
  rintro e w' ⟨a, c, rfl, q1, q2, q3⟩
  exact ⟨a, c, rfl, h.ext q3, q2.rd⟩
theorem kp_eq (h : Kp F w wr t s u U P N) (l : Value) (hl : RdI wr l U) (hU : U.length ≤ 16) :
    Calls Try.prog 21 #[l, u] wr fun e w' => e = .returned (.bool true) ∧ Hid (Kp F w w' t s u U P N) ∧ Hid (RdI w' l U) := by
  refine (eq_nums l u wr hl h.2.1.rd (by omega)).mono ?_
  rintro e w' ⟨rfl, x⟩
  exact ⟨rfl, h.ext x, hl.ext x⟩
theorem kp_tick (n : Int) {s' : St} (h : Kp F w wr t s u U P N) (hn : tickOk s n) (hT : s.T ≤ 100000) (hs : ticked s n = s') :
    Calls Try.prog 24 #[.pointer (some ⟨t, 0, none⟩), .int .i64 n] wr fun e w' => e = .returned (.int .i64 0) ∧ Hid (Kp F w w' t s' u U P N) := by
  refine (p1_tick n h.1 hn hT).mono ?_
  rintro e w' ⟨rfl, p, k⟩
  rw [hs] at p
  exact ⟨rfl, h.keep p k⟩
end
set_option maxRecDepth 20000 in
set_option maxHeartbeats 4000000 in
theorem turns_law (N : Int) (vt : Value) (a : Option Addr) (len cap : Nat) (D M : Nat → Int) (w : World) (hl : len ≤ maxLen) (hc : Acts w a len D M) :
    Calls Try.prog 4 #[.agg #[.int .i64 N, vt, .slice a len cap]] w fun e w' => e = .returned (.bool true) ∧ Ext w w' := by
  have hl' : len ≤ 9223372036854775807 := by unfold maxLen at hl; omega
  have HA : Hid (Acts w a len D M) := hc
  obtain ⟨q0, hq0, HQ0⟩ := within_any N 16 (by omega) (by omega)
  obtain ⟨q9, hq9, HQ9⟩ := within_any N 100 (by omega) (by omega)
  have HQ0 : Hid (∀ w, Calls Try.prog 11 #[.int .i64 N, .int .i64 16] w fun e w' => e = .returned (.int .i64 q0) ∧ w' = w) := HQ0
  have HQ9 : Hid (∀ w, Calls Try.prog 11 #[.int .i64 N, .int .i64 100] w fun e w' => e = .returned (.int .i64 q9) ∧ w' = w) := HQ9
  have HN : Hid (∀ v w', Calls Try.prog 8 #[.int .i64 v] w' fun e w'' => e = .returned (.int .i64 v) ∧ w'' = w') := num_any
  have HWk : Hid (∀ w', Calls Try.prog 9 #[] w' fun e w'' => e = .returned (.bool true) ∧ Ext w' w'') := wakes_any
  have e0 : (1 + (q0 : Int)) = ((1 + q0 : Nat) : Int) := by omega
  have HE0 : Hid ((1 + (q0 : Int)) = ((1 + q0 : Nat) : Int)) := e0
  have x0 : Ext w (w.alloc (.cells #[.int .i64 N, vt, .slice a len cap] 25)) := (Ext.refl w).alloc _
  have u0 : (w.alloc (.cells #[.int .i64 N, vt, .slice a len cap] 25)).cell? ⟨w.heap.size, 0, none⟩ = some (.int .i64 N) := by simp [go_sem]
  have u2 : (w.alloc (.cells #[.int .i64 N, vt, .slice a len cap] 25)).cell? ⟨w.heap.size, 2, none⟩ = some (.slice a len cap) := by simp [go_sem]
  have HNew : Hid (Calls Try.prog 7 #[.int .i64 (1 + (q0 : Int))] (w.alloc (.cells #[.int .i64 N, vt, .slice a len cap] 25)) fun e w' => ∃ t, e = .returned (.tuple #[.pointer (some ⟨t, 0, none⟩), .int .i64 0]) ∧ Hid (P1 (fun k => k = w.heap.size) w w' t ⟨List.replicate (1 + q0) false, [], 0, 0⟩ ∧ w'.cell? ⟨w.heap.size, 0, none⟩ = some (.int .i64 N) ∧ w'.cell? ⟨w.heap.size, 2, none⟩ = some (.slice a len cap))) := by
    rw [e0]
    refine (p1_new (1 + q0) (fun k => k = w.heap.size) w _ x0 (by omega) (by omega) (fun k hk => by simp; omega)).mono ?_
    rintro e w' ⟨t, rfl, q1, q2⟩
    exact ⟨t, rfl, q1, q2.keepc u0, q2.keepc u2⟩
  clear hc e0 x0 u0 u2
  go_enter Try.func4, Try.ntmps4
  go_upto_region 3 with (first | (go_at_call 11; refine (HQ0.out _).mono ?_; rintro e wx ⟨rfl, hwx⟩; have hwy := hwx.symm; clear hwx; subst hwy) | (go_at_call 7; refine HNew.out.mono ?_; rintro e w1 ⟨t, rfl, H1⟩))
  clear HNew HQ0
  generalize hP : w.heap.size = P at *
  have HP : Hid (w.heap.size = P) := hP
  clear hP
  go_upto_block 0 with (go_at_call 8; refine (HN.out _ _).mono ?_; rintro e wx ⟨rfl, hwx⟩; have hwy := hwx.symm; clear hwx; subst hwy)
  go_cut [6] from 30 to 53 (fun _ wx => ∃ A : List Bool, A.length = 1 + q0 ∧ Hid (P1 (fun k => k = P) w wx t ⟨A, [], 0, 0⟩ ∧ wx.cell? ⟨P, 0, none⟩ = some (.int .i64 N)))
  case first =>
    go_wp2_with fail
    go_loopw [6] (fun s6 wr => ∃ (k : Nat) (A : List Bool), k ≤ len ∧ k ≤ 10 ∧ s6 = .int .i64 k ∧ A.length = 1 + q0 ∧ Hid (P1 (fun k => k = P) w wr t ⟨A, [], 0, 0⟩ ∧ wr.cell? ⟨P, 0, none⟩ = some (.int .i64 N) ∧ wr.cell? ⟨P, 2, none⟩ = some (.slice a len cap))) (fun s6 _ => len - (intOf s6).toNat)
    case atStart => exact ⟨0, _, Nat.zero_le _, by omega, rfl, by simp, H1⟩
    case round =>
      obtain ⟨k, A, hk, hk10, rfl, hAl, hK⟩ := hrel
      obtain ⟨h1, h2, h3⟩ := hK.out
      clear H1
      by_cases hlt : k < len
      · have hlt' : (k : Int) < (len : Int) := by omega
        by_cases h10 : k < 10
        · have hA := HA.out.ext h1.x
          obtain ⟨b, off, ea, _⟩ := hA k hlt
          subst ea
          obtain ⟨y0, y1, _⟩ := hA.row hlt
          obtain ⟨q1, hq1, HQ1⟩ := within_any (M k) (1 + q0) (by omega) (by omega)
          rw [← HE0.out] at HQ1
          have HQ1 : Hid (∀ w, Calls Try.prog 11 #[.int .i64 (M k), .int .i64 (1 + (q0 : Int))] w fun e w' => e = .returned (.int .i64 q1) ∧ w' = w) := HQ1
          have HW1 : Hid (Calls Try.prog 13 #[.pointer (some ⟨t, 0, none⟩), .int .i64 (q1 : Int)] wr fun e w' => (∃ x, e = .returned x) ∧ Hid (P1 (fun k => k = P) w w' t ⟨wk A q1, [], 0, 0⟩ ∧ w'.cell? ⟨P, 0, none⟩ = some (.int .i64 N) ∧ w'.cell? ⟨P, 2, none⟩ = some (.slice (some ⟨b, off, none⟩) len cap))) := by
            refine (p1_wake (q1 : Int) h1).mono ?_
            rintro e w' ⟨rfl, p, k'⟩
            exact ⟨⟨_, rfl⟩, p, k' _ _ _ rfl h2, k' _ _ _ rfl h3⟩
          clear hA hK h1 h2
          go_wp2_with (first | (go_at_call 11; refine (HQ1.out _).mono ?_; rintro e wx ⟨rfl, hwx⟩; have hwy := hwx.symm; clear hwx; subst hwy) | (go_at_call 13; refine HW1.out.mono ?_; rintro e w2 ⟨⟨x2, rfl⟩, R2⟩))
          go_roundw
          case measure => simp [intOf]; omega
          case rel => exact ⟨k + 1, wk A q1, by omega, by omega, by simp, by rw [wk_len]; exact hAl, R2⟩
        · have h10' : ¬ (k : Int) < 10 := by omega
          have HK : Hid (P1 (fun k => k = P) w wr t ⟨A, [], 0, 0⟩ ∧ wr.cell? ⟨P, 0, none⟩ = some (.int .i64 N)) := ⟨h1, h2⟩
          clear hK h1 h2
          go_wp2_with fail
          go_meet
          exact ⟨A, hAl, HK⟩
      · have hlt' : ¬ (k : Int) < (len : Int) := by omega
        have HK : Hid (P1 (fun k => k = P) w wr t ⟨A, [], 0, 0⟩ ∧ wr.cell? ⟨P, 0, none⟩ = some (.int .i64 N)) := ⟨h1, h2⟩
        clear hK h1 h2
        go_wp2_with fail
        go_meet
        exact ⟨A, hAl, HK⟩
  case rest =>
    obtain ⟨A, hAl, hK⟩ := hcut
    clear H1
    obtain ⟨R, hR⟩ : ∃ R, R = runs told7 256 0 ⟨A, [], 0, 0⟩ := ⟨_, rfl⟩
    have hUl := ups_le A A.length
    obtain ⟨f1, f2, f3, f4, f5⟩ := runs7 256 0 ⟨A, [], 0, 0⟩ rfl (fun t ht => by simp at ht) (by show (ups A A.length).length ≤ 256; omega)
    obtain ⟨g1, _, g3, _⟩ := runs_T told7 256 0 ⟨A, [], 0, 0⟩
    rw [← hR] at f1 f2 f3 f4 f5 g1 g3
    simp only at f1 f4 f5 g1 g3
    have HRR : Hid (R = runs told7 256 0 ⟨A, [], 0, 0⟩) := hR
    obtain ⟨s2, hs2⟩ : ∃ s2, s2 = R.2.1 := ⟨_, rfl⟩
    rw [← hs2] at f2 f3 f4 f5 g1 g3
    obtain ⟨t1, t2, t3⟩ := ticks7 (s0 := ⟨A, [], 0, 0⟩) (s := s2) f2 f3 g3 f4 (fun x => by have := f5 x; simpa [ids] using this)
    obtain ⟨U, hU⟩ : ∃ U, U = ups A A.length := ⟨_, rfl⟩
    simp only at t2 t3
    have z2 : ups s2.A s2.A.length = [] := by rw [g3]; exact ups_zero f4
    have HU : Hid (U = ups A A.length ∧ U.length ≤ 16) := ⟨hU, by rw [hU]; omega⟩
    have HF : Hid (R.1 = U ∧ R.2.1 = s2 ∧ s2.T ≤ 256 ∧ s2.now = 0 ∧ ups s2.A s2.A.length = [] ∧ ticked s2 6 = { s2 with now := 6 } ∧ (ticked { s2 with now := 6 } 1).A.length = A.length ∧ ups (ticked { s2 with now := 6 } 1).A (ticked { s2 with now := 6 } 1).A.length = U) := ⟨by rw [f1, hU], hs2.symm, by omega, f2, z2, t1, t2, by rw [t2, t3, hU]⟩
    have HAw : Hid (Calls Try.prog 26 #[.pointer (some ⟨t, 0, none⟩)] wc fun e w' => ∃ a cap, e = .returned (.slice a U.length cap) ∧ Hid (P1 (fun k => k = P ∨ (Value.slice a U.length cap).ownBlock = some k) w w' t ⟨A, [], 0, 0⟩ ∧ RdG (fun k => k = P ∨ (Value.slice a U.length cap).ownBlock = some k) w' (.slice a U.length cap) U ∧ w'.cell? ⟨P, 0, none⟩ = some (.int .i64 N))) := by
      have := p1_awake hK.out.1
      simp only at this
      rw [← hU] at this
      refine this.mono ?_
      rintro e w' ⟨a, c, rfl, q1, q2, q3⟩
      exact ⟨a, c, rfl, q1, q2.mono (fun _ z => .inr z), q3.keepc hK.out.2⟩
    have hUr : ∀ j, j < U.length → 0 ≤ gi U j ∧ gi U j < 1 + (q0 : Int) := fun j hj => by
      rw [hU] at hj ⊢
      have := ups_in hj
      omega
    have hUp : ∀ j, 0 < j → j < U.length → gi U (j - 1) < gi U j := fun j h0 hj => by
      rw [hU] at hj ⊢
      exact ups_up h0 hj
    have HRi : Hid (∀ u w', RdI w' u U → Calls Try.prog 29 #[u, .int .i64 0, .int .i64 (1 + (q0 : Int))] w' fun e w'' => e = .returned (.bool true) ∧ Ext w' w'') := fun u w' h => rising_any u _ w' h hUr hUp (by have := HU.out.2; omega)
    have HEq : Hid (∀ u v w', RdI w' u U → RdI w' v U → Calls Try.prog 21 #[u, v] w' fun e w'' => e = .returned (.bool true) ∧ Ext w' w'') := fun u v w' h h' => eq_nums u v w' h h' (by have := HU.out.2; omega)
    have hmf : ∀ (fn : Fn) (first cap : Array Value) (w : World), (Instr.makeFunc fn first cap).run Try.prog w = .ok (.func fn first cap) w := fun _ _ _ _ => rfl
    clear hR hUl f1 f2 f3 f4 f5 g1 g3 hs2 t1 t2 t3 hU z2 hUr hUp hK
    go_upto_region 10 with (go_at_call 26; refine HAw.out.mono ?_; rintro e w2 ⟨a2, c2, rfl, p2⟩)
    clear HAw
    have HRun : Hid (Calls Try.prog 14 #[.pointer (some ⟨t, 0, none⟩), .int .i64 256, .func (.func 28) #[] #[]] w2 fun e w' => ∃ a cap, e = .returned (.tuple #[.slice a U.length cap, .int .i64 0]) ∧ Hid (P1 (fun k => k = P ∨ (Value.slice a2 U.length c2).ownBlock = some k) w w' t s2 ∧ RdI w' (.slice a U.length cap) U ∧ RdG (fun k => k = P ∨ (Value.slice a2 U.length c2).ownBlock = some k) w' (.slice a2 U.length c2) U ∧ w'.cell? ⟨P, 0, none⟩ = some (.int .i64 N))) := by
      have := p1_run 256 (.func 28) #[] #[] told7 p2.out.1 (by omega) (by simp) (fun _ _ _ _ _ _ => fair_true) trivial (asks_turns1 _ _) (fun _ _ => by simp)
      rw [← HRR.out, HF.out.1, HF.out.2.1] at this
      refine this.mono ?_
      rintro e w' ⟨a, c, rfl, q1, q2, q3⟩
      exact ⟨a, c, rfl, q1.mono (fun _ z => .inl z), q2.rd, p2.out.2.1.keep q3, q3 _ _ _ (.inl rfl) p2.out.2.2⟩
    go_upto_region 11 with (go_at_call 14; refine HRun.out.mono ?_; rintro e w3 ⟨a3, c3, rfl, p3⟩)
    have p : Hid (Kp (fun k => k = P ∨ (Value.slice a2 U.length c2).ownBlock = some k) w w3 t s2 (.slice a2 U.length c2) U P N) := ⟨p3.out.1, p3.out.2.2.1, p3.out.2.2.2, .inl rfl⟩
    have r : Hid (RdI w3 (.slice a3 U.length c3) U) := p3.out.2.1
    clear p2 p3 HRun HEq
    generalize hFW : (fun k => k = P ∨ (Value.slice a2 U.length c2).ownBlock = some k) = FW at *
    clear hFW
    obtain ⟨s3, hs3⟩ : ∃ s3, s3 = { s2 with now := 6 } := ⟨_, rfl⟩
    obtain ⟨s4, hs4⟩ : ∃ s4, s4 = ticked s3 1 := ⟨_, rfl⟩
    obtain ⟨hF1, hF2, hF3, hF4, hF5, hF6, hF7, hF8⟩ := HF.out
    rw [← hs3] at hF6 hF7 hF8
    rw [← hs4] at hF7 hF8
    have z3 : ups s3.A s3.A.length = [] := by rw [hs3]; exact hF5
    have n3 : s3.now = 6 ∧ s3.T ≤ 256 := by rw [hs3]; exact ⟨rfl, hF3⟩
    have HEq : Hid (∀ (w' : World) (s : St) (l : Value), Hid (Kp FW w w' t s (.slice a2 U.length c2) U P N) → Hid (RdI w' l U) → Calls Try.prog 21 #[l, .slice a2 U.length c2] w' fun e w'' => e = .returned (.bool true) ∧ Hid (Kp FW w w'' t s (.slice a2 U.length c2) U P N) ∧ Hid (RdI w'' l U)) := fun w' s l h h' => kp_eq h.out l h'.out HU.out.2
    have HRi2 : Hid (∀ (w' : World) (s : St) (l : Value), Hid (Kp FW w w' t s (.slice a2 U.length c2) U P N) → Hid (RdI w' l U) → Calls Try.prog 29 #[l, .int .i64 0, .int .i64 (1 + (q0 : Int))] w' fun e w'' => e = .returned (.bool true) ∧ Hid (Kp FW w w'' t s (.slice a2 U.length c2) U P N)) := fun w' s l h h' => (HRi.out l w' h'.out).mono fun e w'' ⟨he, x⟩ => ⟨he, h.out.ext x⟩
    have HA2 : Hid (∀ (w' : World), Hid (Kp FW w w' t s2 (.slice a2 U.length c2) U P N) → Calls Try.prog 26 #[.pointer (some ⟨t, 0, none⟩)] w' fun e w'' => ∃ a cap, e = .returned (.slice a 0 cap) ∧ Hid (Kp FW w w'' t s2 (.slice a2 U.length c2) U P N) ∧ Hid (RdI w'' (.slice a 0 cap) [])) := fun w' h => kp_awake h.out hF5
    have HA3 : Hid (∀ (w' : World), Hid (Kp FW w w' t s3 (.slice a2 U.length c2) U P N) → Calls Try.prog 26 #[.pointer (some ⟨t, 0, none⟩)] w' fun e w'' => ∃ a cap, e = .returned (.slice a 0 cap) ∧ Hid (Kp FW w w'' t s3 (.slice a2 U.length c2) U P N) ∧ Hid (RdI w'' (.slice a 0 cap) [])) := fun w' h => kp_awake h.out z3
    have HA4 : Hid (∀ (w' : World), Hid (Kp FW w w' t s4 (.slice a2 U.length c2) U P N) → Calls Try.prog 26 #[.pointer (some ⟨t, 0, none⟩)] w' fun e w'' => ∃ a cap, e = .returned (.slice a U.length cap) ∧ Hid (Kp FW w w'' t s4 (.slice a2 U.length c2) U P N) ∧ Hid (RdI w'' (.slice a U.length cap) U)) := fun w' h => kp_awake h.out hF8
    have HT6 : Hid (∀ (w' : World), Hid (Kp FW w w' t s2 (.slice a2 U.length c2) U P N) → Calls Try.prog 24 #[.pointer (some ⟨t, 0, none⟩), .int .i64 6] w' fun e w'' => e = .returned (.int .i64 0) ∧ Hid (Kp FW w w'' t s3 (.slice a2 U.length c2) U P N)) := fun w' h => kp_tick 6 h.out (by unfold tickOk; omega) (by omega) hF6
    have HT1 : Hid (∀ (w' : World), Hid (Kp FW w w' t s3 (.slice a2 U.length c2) U P N) → Calls Try.prog 24 #[.pointer (some ⟨t, 0, none⟩), .int .i64 1] w' fun e w'' => e = .returned (.int .i64 0) ∧ Hid (Kp FW w w'' t s4 (.slice a2 U.length c2) U P N)) := fun w' h => kp_tick 1 h.out (by unfold tickOk; omega) (by omega) hs4.symm
    have n4 : s4.T ≤ 256 ∧ s4.A.length = A.length := by rw [hs4] at hF7 ⊢; exact ⟨n3.2, hF7⟩
    have HN4 : Hid (s4.T ≤ 256 ∧ s4.A.length = A.length) := n4
    clear HRi hF1 hF2 hF3 hF4 hF5 hF6 hF7 hF8 z3 n3 n4 HF HRR
    have HS3 : Hid (s3 = { s2 with now := 6 } ∧ s4 = ticked s3 1) := ⟨hs3, hs4⟩
    clear hs3 hs4
    go_upto_region 13 with (first | (go_at_call 8; refine (HN.out _ _).mono ?_; rintro e wx ⟨rfl, hwx⟩; have hwy := hwx.symm; clear hwx; subst hwy) | (go_at_call 21; refine (HEq.out _ _ _ p r).mono ?_; rintro e w4 ⟨rfl, p, r⟩) | (go_at_call 29; refine (HRi2.out _ _ _ p r).mono ?_; rintro e w5 ⟨rfl, p⟩) | (go_at_call 26; refine (HA2.out _ p).mono ?_; rintro e w6 ⟨a6, c6, rfl, p, _⟩))
    clear HA2 HRi2
    go_upto_region 15 with (first | (go_at_call 8; refine (HN.out _ _).mono ?_; rintro e wx ⟨rfl, hwx⟩; have hwy := hwx.symm; clear hwx; subst hwy) | (go_at_call 24; refine (HT6.out _ p).mono ?_; rintro e w7 ⟨rfl, p⟩; clear HT6) | (go_at_call 24; refine (HT1.out _ p).mono ?_; rintro e w8 ⟨rfl, p⟩; clear HT1) | (go_at_call 26; refine (HA3.out _ p).mono ?_; rintro e w9 ⟨a9, c9, rfl, p, _⟩; clear HA3) | (go_at_call 26; refine (HA4.out _ p).mono ?_; rintro e w10 ⟨a10, c10, rfl, p, r⟩; clear HA4) | (go_at_call 21; refine (HEq.out _ _ _ p r).mono ?_; rintro e w11 ⟨rfl, p, r⟩))
    clear HEq r
    obtain ⟨s5, hs5⟩ : ∃ s5 : St, s5 = { s4 with A := wk s4.A 0 } := ⟨_, rfl⟩
    have hW0 := p1_wake 0 p.out.1
    rw [← hs5] at hW0
    have HW0 : Hid (Calls Try.prog 13 #[.pointer (some ⟨t, 0, none⟩), .int .i64 0] w11 fun e w' => (∃ x, e = .returned x) ∧ Hid (Kp FW w w' t s5 (.slice a2 U.length c2) U P N)) := hW0.mono fun e w' ⟨he, p', k'⟩ => ⟨⟨_, he⟩, p.out.keep p' k'⟩
    have H5 : Hid (s5.T ≤ 256 ∧ 0 < s5.A.length ∧ up s5.A 0 = true) := by
      have hlen4 := HN4.out.2
      rw [hs5]
      refine ⟨HN4.out.1, by simp only [wk_len]; omega, ?_⟩
      have := up_wk (A := s4.A) (j := 0) (by omega) 0
      simp only at this ⊢
      rw [this]; simp
    clear hW0 hs5 HS3
    go_upto_region 16 with (go_at_call 13; refine HW0.out.mono ?_; rintro e w12 ⟨⟨x12, rfl⟩, p⟩)
    have cN := p.out.2.2.1
    go_upto_region 17 with (go_at_call 11; refine (HQ9.out _).mono ?_; rintro e wx ⟨rfl, hwx⟩; have hwy := hwx.symm; clear hwx; subst hwy)
    have hRn := p1_run q9 (.func 30) #[] #[] toldI p.out.1 (by omega) (by have := H5.out.1; omega) (fun _ _ _ _ _ _ => fair_true) trivial (asks_turns2 _ _) (fun _ i => by simp)
    rw [runsI s5 H5.out.2.1 H5.out.2.2] at hRn
    simp only [List.length_replicate] at hRn
    have HRn : Hid (Calls Try.prog 14 #[.pointer (some ⟨t, 0, none⟩), .int .i64 q9, .func (.func 30) #[] #[]] w12 fun e w' => ∃ a cap, e = .returned (.tuple #[.slice a q9 cap, .int .i64 0]) ∧ Hid (Ext w w' ∧ RdI w' (.slice a q9 cap) (List.replicate q9 0))) := hRn.mono fun e w' ⟨a, c, he, q1, q2, q3⟩ => ⟨a, c, he, q1.x, q2.rd⟩
    clear hRn H5 HW0 cN p HQ9
    go_upto_region 20 with (first | (go_at_call 8; refine (HN.out _ _).mono ?_; rintro e wx ⟨rfl, hwx⟩; have hwy := hwx.symm; clear hwx; subst hwy) | (go_at_call 14; refine HRn.out.mono ?_; rintro e w13 ⟨a13, c13, rfl, p13⟩))
    have HM : Hid (∀ j, j < q9 → ∃ b off, a13 = some ⟨b, off, none⟩ ∧ w13.cell? ⟨b, off + j, none⟩ = some (.int .i64 0)) := fun j hj => by
      obtain ⟨a', c', e, h⟩ := p13.out.2
      obtain ⟨b, off, h1, h2⟩ := h j (by simpa using hj)
      simp only [Value.slice.injEq] at e
      refine ⟨b, off, by rw [e.1, h1], ?_⟩
      have : gi (List.replicate q9 (0 : Int)) j = 0 := by unfold gi; simp [hj]
      rw [← this]; exact h2
    have HXe : Hid (Ext w w13) := p13.out.1
    clear p13 HRn
    go_wp2_with fail
    go_loopw [13] (fun s13 wr => ∃ j : Nat, j ≤ q9 ∧ s13 = .int .i64 j ∧ wr = w13) (fun s13 _ => q9 - (intOf s13).toNat)
    case atStart => exact ⟨0, Nat.zero_le _, rfl, rfl⟩
    case round =>
      obtain ⟨j, hj, rfl, hwr⟩ := hrel
      subst hwr
      by_cases hlt : j < q9
      · have hlt' : (j : Int) < (q9 : Int) := by omega
        obtain ⟨b, off, rfl, c0⟩ := HM.out j hlt
        go_wp2_with fail
        go_roundw
        case measure => simp [intOf]; omega
        case rel => exact ⟨j + 1, by omega, by simp, by first | rfl | trivial⟩
      · have hlt' : ¬ (j : Int) < (q9 : Int) := by omega
        go_wp2_with (go_at_call 9; refine (HWk.out _).mono ?_; rintro e w14 ⟨rfl, x14⟩)
        go_ret
        exact ⟨rfl, HXe.out.trans x14⟩
end Go.Proofs.Ytehphgpkhfokhaa
