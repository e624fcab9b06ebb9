/- SchedTicks: its walk. -/
import Derived.Test.YtehphgpkhfokhaaTe
import Derived.Deep.CutBlock
namespace Go.Proofs.Ytehphgpkhfokhaa
open Go.RowKit Go.Conc
/-- what the loop keeps -/
def Tl (w wr : World) (P : Nat) (u : Value) (ta tb n k : Nat) : Prop :=
  ∃ s : St, Pk (fun k => k = P) w wr ta tb s s ∧ wr.cell? ⟨P, 2, none⟩ = some u ∧ s.T ≤ 256 * k ∧ s.now ≤ 28 * k ∧ s.A.length = n
theorem tl_new {w w0 w1 w2 : World} {n ta ba tb bb P : Nat} {u : Value} {ca cb : Nat → Nat} (hu : w0.cell? ⟨P, 2, none⟩ = some u) (x0 : Ext w0 w1) (h0 : ∀ k, OwnT ta ba ca n (.slice none 0 0) k → w0.heap.size ≤ k) (h1 : Tk w w1 ta ba ca (.slice none 0 0) ⟨List.replicate n false, [], 0, 0⟩) (h2 : Tk w w2 tb bb cb (.slice none 0 0) ⟨List.replicate n false, [], 0, 0⟩) (x : Ext w1 w2) (h3 : ∀ k, OwnT tb bb cb n (.slice none 0 0) k → w1.heap.size ≤ k) : Tl w w2 P u ta tb n 0 := by
  have lP := World.block_lt_of_cell? w0 ⟨P, 2, none⟩ hu
  simp only at lP
  have s0 := x0.size
  have s1 := x.size
  refine ⟨_, ⟨ba, ca, _, bb, cb, _, ⟨h1.ext x, h2, fun k o o' => ?_, fun k o => ⟨fun o' => ?_, fun o' => ?_, ?_⟩⟩⟩, x.keepc (x0.keepc hu), by simp, by simp, by simp⟩
  · have q1 := h1.tab.lt k o
    have q2 := h3 k (by simpa using o')
    omega
  · have q2 := h0 k (by simpa using o')
    omega
  · have q2 := h3 k (by simpa using o')
    omega
  · omega
set_option maxRecDepth 20000 in
set_option maxHeartbeats 4000000 in
theorem ticks_law (N : Int) (vt : Value) (a : Option Addr) (len cap : Nat) (D M : Nat → Int) (w : World) (hl : len ≤ maxLen) (hc : Acts w a len D M) :
    Calls Try.prog 5 #[.agg #[.int .i64 N, vt, .slice a len cap]] w fun e w' => e = .returned (.bool true) ∧ Ext w w' := by
  have hl' : len ≤ 9223372036854775807 := by unfold maxLen at hl; omega
  have HA : Hid (Acts w a len D M) := hc
  obtain ⟨q0, hq0, HQ0⟩ := within_any N 16 (by omega) (by omega)
  have HQ0 : Hid (∀ w, Calls Try.prog 11 #[.int .i64 N, .int .i64 16] w fun e w' => e = .returned (.int .i64 q0) ∧ w' = w) := HQ0
  have HN : Hid (∀ v w', Calls Try.prog 8 #[.int .i64 v] w' fun e w'' => e = .returned (.int .i64 v) ∧ w'' = w') := num_any
  have HWk : Hid (∀ w', Calls Try.prog 9 #[] w' fun e w'' => e = .returned (.bool true) ∧ Ext w' w'') := wakes_any
  have e0 : (1 + (q0 : Int)) = ((1 + q0 : Nat) : Int) := by omega
  have HE0 : Hid ((1 + (q0 : Int)) = ((1 + q0 : Nat) : Int)) := e0
  have HNew : Hid (∀ w1, Ext w w1 → Calls Try.prog 7 #[.int .i64 (1 + (q0 : Int))] w1 fun e w' => ∃ t b c, e = .returned (.tuple #[.pointer (some ⟨t, 0, none⟩), .int .i64 0]) ∧ Tk w w' t b c (.slice none 0 0) ⟨List.replicate (1 + q0) false, [], 0, 0⟩ ∧ Ext w1 w' ∧ ∀ k, OwnT t b c (1 + q0) (.slice none 0 0) k → w1.heap.size ≤ k) := fun w1 x => by rw [e0]; exact new_tk (1 + q0) w w1 x (by omega) (by omega)
  have HX0 : Hid (Ext w (w.alloc (.cells #[.int .i64 N, vt, .slice a len cap] 25))) := (Ext.refl w).alloc _
  have HU0 : Hid ((w.alloc (.cells #[.int .i64 N, vt, .slice a len cap] 25)).cell? ⟨w.heap.size, 2, none⟩ = some (.slice a len cap)) := by show _ = _; simp [go_sem]
  clear hc e0
  go_enter Try.func5, Try.ntmps5
  go_upto_region 3 with (first | (go_at_call 11; refine (HQ0.out _).mono ?_; rintro e wx ⟨rfl, hwx⟩; have hwy := hwx.symm; clear hwx; subst hwy) | (go_at_call 7; refine (HNew.out _ HX0.out).mono ?_; rintro e w1 ⟨ta, ba, ca, rfl, r1, x1, o1⟩))
  go_upto_region 4 with (go_at_call 7; refine (HNew.out _ (HX0.out.trans x1)).mono ?_; rintro e w2 ⟨tb, bb, cb, rfl, r2, x2, o2⟩)
  have H0 : Hid (Tl w w2 w.heap.size (.slice a len cap) ta tb (1 + q0) 0) := tl_new HU0.out x1 o1 r1 r2 x2 o2
  clear r1 x1 o1 r2 x2 o2 HNew HX0 HU0 HQ0
  generalize hP : w.heap.size = P at *
  have HP : Hid (w.heap.size = P) := hP
  clear hP
  go_wp2_with (go_at_call 8; refine (HN.out _ _).mono ?_; rintro e wx ⟨rfl, hwx⟩; have hwy := hwx.symm; clear hwx; subst hwy)
  go_loopw [8] (fun s8 wr => ∃ k : Nat, k ≤ len ∧ k ≤ 12 ∧ s8 = .int .i64 k ∧ Hid (Tl w wr P (.slice a len cap) ta tb (1 + q0) k)) (fun s8 _ => len - (intOf s8).toNat)
  case atStart => exact ⟨0, Nat.zero_le _, by omega, rfl, H0⟩
  case round =>
    obtain ⟨k, hk, hk12, rfl, hK⟩ := hrel
    clear H0
    obtain ⟨s, h1, h2, h3, h4, h5⟩ := hK.out
    by_cases hlt : k < len
    · by_cases h12 : k < 12
      · have hA := HA.out.ext h1.x
        obtain ⟨b, off, ea, _⟩ := hA k hlt
        subst ea
        obtain ⟨y0, y1, _⟩ := hA.row hlt
        obtain ⟨q1, hq1, HQ1⟩ := within_any (M k) (1 + q0) (by omega) (by omega)
        obtain ⟨q2, hq2, HQ2⟩ := within_any (D k) 20 (by omega) (by omega)
        obtain ⟨q3, hq3, HQ3⟩ := within_any (M k) 15 (by omega) (by omega)
        rw [← HE0.out] at HQ1
        have hlt' : (k : Int) < (len : Int) := by omega
        have HQ1 : Hid (∀ w, Calls Try.prog 11 #[.int .i64 (M k), .int .i64 (1 + (q0 : Int))] w fun e w' => e = .returned (.int .i64 q1) ∧ w' = w) := HQ1
        have HQ2 : Hid (∀ w, Calls Try.prog 11 #[.int .i64 (D k), .int .i64 20] w fun e w' => e = .returned (.int .i64 q2) ∧ w' = w) := HQ2
        have HQ3 : Hid (∀ w, Calls Try.prog 11 #[.int .i64 (M k), .int .i64 15] w fun e w' => e = .returned (.int .i64 q3) ∧ w' = w) := HQ3
        have p0 := h1.more (.cells #[.int .i64 (1 + (q2 : Int))] 3)
        have cP := ((Ext.refl wr).alloc (.cells #[.int .i64 (1 + (q2 : Int))] 3)).keepc h2
        have cX : (wr.alloc (.cells #[.int .i64 (1 + (q2 : Int))] 3)).cell? ⟨wr.heap.size, 0, none⟩ = some (.int .i64 (1 + (q2 : Int))) := by simp [go_sem]
        have HB : Hid (s.T ≤ 256 * k ∧ s.now ≤ 28 * k ∧ s.A.length = 1 + q0) := ⟨h3, h4, h5⟩
        have HP0 : Hid (Pk (fun j => j = P ∨ j = wr.heap.size) w (wr.alloc (.cells #[.int .i64 (1 + (q2 : Int))] 3)) ta tb s s ∧ (wr.alloc (.cells #[.int .i64 (1 + (q2 : Int))] 3)).cell? ⟨P, 2, none⟩ = some (.slice (some ⟨b, off, none⟩) len cap) ∧ (wr.alloc (.cells #[.int .i64 (1 + (q2 : Int))] 3)).cell? ⟨wr.heap.size, 0, none⟩ = some (.int .i64 (1 + (q2 : Int)))) := ⟨p0, cP, cX⟩
        clear hA hK h1 h3 h4 h5 p0 cP cX
        go_upto_region 10 with (go_at_call 11; refine (HQ1.out _).mono ?_; rintro e wx ⟨rfl, hwx⟩; have hwy := hwx.symm; clear hwx; subst hwy)
        go_upto_region 11 with (go_at_call 11; refine (HQ2.out _).mono ?_; rintro e wx ⟨rfl, hwx⟩; have hwy := hwx.symm; clear hwx; subst hwy)
        clear y0 y1 h2 HQ1 HQ2
        generalize wr.alloc (.cells #[.int .i64 (1 + (q2 : Int))] 3) = W at *
        generalize wr.heap.size = X at *
        obtain ⟨s1, hs1⟩ : ∃ s1 : St, s1 = { s with A := wk s.A q1 } := ⟨_, rfl⟩
        have HW1 := pk_wake (q1 : Int) HP0.out.1
        rw [← hs1] at HW1
        go_upto_region 12 with (go_at_call 13; refine HW1.mono ?_; rintro e w3 ⟨rfl, p3, k3⟩)
        have HW2 := pk_wake (q1 : Int) p3
        have es : { s1 with A := wk s1.A q1 } = s1 := by rw [hs1]; simp only [wk_wk]
        rw [es] at HW2
        clear HW1
        have HP3 : Hid (w3.cell? ⟨P, 2, none⟩ = some (.slice (some ⟨b, off, none⟩) len cap) ∧ w3.cell? ⟨X, 0, none⟩ = some (.int .i64 (1 + (q2 : Int)))) := ⟨k3 _ _ _ (.inl rfl) HP0.out.2.1, k3 _ _ _ (.inr rfl) HP0.out.2.2⟩
        clear HP0 es p3 k3
        go_upto_region 13 with (go_at_call 13; refine HW2.mono ?_; rintro e w4 ⟨rfl, p4, k4⟩)
        have HW3 := pk_wake (q1 : Int) p4.swap
        rw [← hs1] at HW3
        clear HW2
        have HP4 : Hid (w4.cell? ⟨P, 2, none⟩ = some (.slice (some ⟨b, off, none⟩) len cap) ∧ w4.cell? ⟨X, 0, none⟩ = some (.int .i64 (1 + (q2 : Int)))) := ⟨k4 _ _ _ (.inl rfl) HP3.out.1, k4 _ _ _ (.inr rfl) HP3.out.2⟩
        clear HP3 p4 k4
        go_upto_region 14 with (go_at_call 13; refine HW3.mono ?_; rintro e w5 ⟨rfl, p5, k5⟩)
        clear HW3
        have HP5 : Hid (Pk (fun j => j = P ∨ j = X) w w5 ta tb s1 s1 ∧ w5.cell? ⟨P, 2, none⟩ = some (.slice (some ⟨b, off, none⟩) len cap) ∧ w5.cell? ⟨X, 0, none⟩ = some (.int .i64 (1 + (q2 : Int)))) := ⟨p5.swap, k5 _ _ _ (.inl rfl) HP4.out.1, k5 _ _ _ (.inr rfl) HP4.out.2⟩
        clear HP4 p5 k5
        have HB1 : Hid (s1.T ≤ 256 * k ∧ s1.now ≤ 28 * k ∧ s1.A.length = 1 + q0) := by rw [hs1]; exact ⟨HB.out.1, HB.out.2.1, by simpa [wk_len] using HB.out.2.2⟩
        clear HB hs1
        have HR1 := pk_run 256 (.func 31) #[] #[.pointer (some ⟨X, 0, none⟩)] (fun _ _ => ([], 1 + (q2 : Int))) HP5.out.1 (by omega) (by have := HB1.out.1; omega) (fun t b c v n hf => fair_cell HP5.out.2.2 (hf X (.inr rfl)).1) HP5.out.2.2 (asks_ticks1 _ _ _ _) (fun _ _ => by simp; omega)
        obtain ⟨R, hR⟩ : ∃ R, R = runs (fun _ _ => ([], 1 + (q2 : Int))) 256 0 s1 := ⟨_, rfl⟩
        rw [← hR] at HR1
        have hmf : ∀ (fn : Fn) (first cap : Array Value) (w : World), (Instr.makeFunc fn first cap).run Try.prog w = .ok (.func fn first cap) w := fun _ _ _ _ => rfl
        have HRb := runs_T (fun _ _ => ([], 1 + (q2 : Int))) 256 0 s1
        rw [← hR] at HRb
        have HRb : Hid (R.2.1.T ≤ s1.T + (256 : Nat) ∧ R.2.1.now = s1.now ∧ R.2.1.A.length = s1.A.length ∧ R.1.length ≤ 256) := HRb
        have HRR : Hid (R = runs (fun _ _ => ([], 1 + (q2 : Int))) 256 0 s1) := hR
        clear hR
        go_upto_region 15 with (go_at_call 14; refine HR1.mono ?_; rintro e w6 ⟨a6, c6, rfl, p6, r6, k6⟩)
        clear HR1
        have cX6 := k6 _ _ _ (.inr rfl) HP5.out.2.2
        have HR2 := pk_run 256 (.func 32) #[] #[.pointer (some ⟨X, 0, none⟩)] (fun _ _ => ([], 1 + (q2 : Int))) p6.swap (by omega) (by have := HB1.out.1; omega) (fun t b c v n hf => fair_cell cX6 (hf X (.inl (.inr rfl))).1) cX6 (asks_ticks2 _ _ _ _) (fun _ _ => by simp; omega)
        rw [← HRR.out] at HR2
        have HP6 : Hid (RdG (fun k => (Value.slice a6 R.1.length c6).ownBlock = some k) w6 (.slice a6 R.1.length c6) R.1 ∧ w6.cell? ⟨P, 2, none⟩ = some (.slice (some ⟨b, off, none⟩) len cap)) := ⟨r6, k6 _ _ _ (.inl rfl) HP5.out.2.1⟩
        clear HP5 HRR p6 r6 k6 cX6
        go_upto_region 16 with (go_at_call 14; refine HR2.mono ?_; rintro e w7 ⟨a7, c7, rfl, p7, r7, k7⟩)
        have HEq := eq_nums _ _ w7 ((HP6.out.1.mono (F' := fun k => (k = P ∨ k = X) ∨ (Value.slice a6 R.1.length c6).ownBlock = some k) (fun _ z => .inr z)).keep k7).rd r7.rd (by have := HRb.out.2.2.2; omega)
        have HP7 : Hid (Pk (fun k => k = P) w w7 ta tb R.2.1 R.2.1 ∧ w7.cell? ⟨P, 2, none⟩ = some (.slice (some ⟨b, off, none⟩) len cap)) := ⟨p7.swap.mono (fun _ z => .inl (.inl (.inl z))), k7 _ _ _ (.inl (.inl rfl)) HP6.out.2⟩
        clear HP6 p7 r7 k7 HR2 hmf
        go_upto_region 18 with (first | (go_at_call 8; refine (HN.out _ _).mono ?_; rintro e wx ⟨rfl, hwx⟩; have hwy := hwx.symm; clear hwx; subst hwy) | (go_at_call 21; refine HEq.mono ?_; rintro e w8 ⟨rfl, x8⟩))
        have p8 := HP7.out.1.ext x8
        have cP := x8.keepc HP7.out.2
        obtain ⟨y0, y1, _⟩ := (HA.out.ext p8.x).row hlt
        have HP8 : Hid (Pk (fun k => k = P) w w8 ta tb R.2.1 R.2.1 ∧ w8.cell? ⟨P, 2, none⟩ = some (.slice (some ⟨b, off, none⟩) len cap)) := ⟨p8, cP⟩
        clear HP7 HEq x8 p8
        go_upto_region 19 with (go_at_call 11; refine (HQ3.out _).mono ?_; rintro e wx ⟨rfl, hwx⟩; have hwy := hwx.symm; clear hwx; subst hwy)
        clear y0 y1 cP HQ3
        have hb1 := HB1.out
        have hb2 := HRb.out
        have HTa : Hid (Calls Try.prog 24 #[.pointer (some ⟨ta, 0, none⟩), .int .i64 (2 * (q3 : Int))] w8 fun e w' => e = .returned (.int .i64 0) ∧ Hid (Pk (fun k => k = P) w w' ta tb (ticked R.2.1 (2 * (q3 : Int))) R.2.1 ∧ w'.cell? ⟨P, 2, none⟩ = some (.slice (some ⟨b, off, none⟩) len cap))) := by
          refine (pk_tick (2 * (q3 : Int)) HP8.out.1 (by unfold tickOk; omega) (by omega)).mono ?_
          rintro e w' ⟨rfl, p, k'⟩
          exact ⟨rfl, p, k' _ _ _ rfl HP8.out.2⟩
        have HTb1 : Hid (∀ w9, Hid (Pk (fun k => k = P) w w9 ta tb (ticked R.2.1 (2 * (q3 : Int))) R.2.1 ∧ w9.cell? ⟨P, 2, none⟩ = some (.slice (some ⟨b, off, none⟩) len cap)) → Calls Try.prog 24 #[.pointer (some ⟨tb, 0, none⟩), .int .i64 (q3 : Int)] w9 fun e w' => e = .returned (.int .i64 0) ∧ Hid (Pk (fun k => k = P) w w' ta tb (ticked R.2.1 (2 * (q3 : Int))) (ticked R.2.1 (q3 : Int)) ∧ w'.cell? ⟨P, 2, none⟩ = some (.slice (some ⟨b, off, none⟩) len cap))) := fun w9 h => by
          refine (pk_tick (q3 : Int) h.out.1.swap (by unfold tickOk; omega) (by omega)).mono ?_
          rintro e w' ⟨rfl, p, k'⟩
          exact ⟨rfl, p.swap, k' _ _ _ rfl h.out.2⟩
        have HTb2 : Hid (∀ w9, Hid (Pk (fun k => k = P) w w9 ta tb (ticked R.2.1 (2 * (q3 : Int))) (ticked R.2.1 (q3 : Int)) ∧ w9.cell? ⟨P, 2, none⟩ = some (.slice (some ⟨b, off, none⟩) len cap)) → Calls Try.prog 24 #[.pointer (some ⟨tb, 0, none⟩), .int .i64 (q3 : Int)] w9 fun e w' => e = .returned (.int .i64 0) ∧ Hid (Pk (fun k => k = P) w w' ta tb (ticked R.2.1 (2 * (q3 : Int))) (ticked R.2.1 (2 * (q3 : Int))) ∧ w'.cell? ⟨P, 2, none⟩ = some (.slice (some ⟨b, off, none⟩) len cap))) := fun w9 h => by
          refine (pk_tick (q3 : Int) h.out.1.swap (by unfold tickOk; simp only [ticked]; omega) (by simp only [ticked]; omega)).mono ?_
          rintro e w' ⟨rfl, p, k'⟩
          rw [ticked_two _ _ (by omega)] at p
          exact ⟨rfl, p.swap, k' _ _ _ rfl h.out.2⟩
        have HBt : Hid ((ticked R.2.1 (2 * (q3 : Int))).T ≤ 256 * (k + 1) ∧ (ticked R.2.1 (2 * (q3 : Int))).now ≤ 28 * (k + 1) ∧ (ticked R.2.1 (2 * (q3 : Int))).A.length = 1 + q0) := by
          refine ⟨?_, ?_, ?_⟩
          · simp only [ticked]; omega
          · simp only [ticked]; omega
          · simp only [ticked, wkAll_len]; omega
        clear HP8 HB1 HRb hb1 hb2
        obtain ⟨SA, hSA⟩ : ∃ SA, SA = ticked R.2.1 (2 * (q3 : Int)) := ⟨_, rfl⟩
        rw [← hSA] at HTa HTb1 HTb2 HBt
        clear hSA
        have HAa : Hid (∀ w11, Hid (Pk (fun k => k = P) w w11 ta tb SA SA ∧ w11.cell? ⟨P, 2, none⟩ = some (.slice (some ⟨b, off, none⟩) len cap)) → Calls Try.prog 26 #[.pointer (some ⟨ta, 0, none⟩)] w11 fun e w' => ∃ a cap', e = .returned (.slice a (ups SA.A SA.A.length).length cap') ∧ Hid (RdI w' (.slice a (ups SA.A SA.A.length).length cap') (ups SA.A SA.A.length) ∧ Pk (fun k => k = P) w w' ta tb SA SA ∧ w'.cell? ⟨P, 2, none⟩ = some (.slice (some ⟨b, off, none⟩) len cap))) := fun w11 h => by
          refine (pk_awake h.out.1).mono ?_
          rintro e w' ⟨a, c, rfl, q1, q2⟩
          exact ⟨a, c, rfl, q1, h.out.1.ext q2, q2.keepc h.out.2⟩
        have HAb : Hid (∀ w11 u, Hid (RdI w11 u (ups SA.A SA.A.length) ∧ Pk (fun k => k = P) w w11 ta tb SA SA ∧ w11.cell? ⟨P, 2, none⟩ = some (.slice (some ⟨b, off, none⟩) len cap)) → Calls Try.prog 26 #[.pointer (some ⟨tb, 0, none⟩)] w11 fun e w' => ∃ a cap', e = .returned (.slice a (ups SA.A SA.A.length).length cap') ∧ Hid (RdI w' u (ups SA.A SA.A.length) ∧ RdI w' (.slice a (ups SA.A SA.A.length).length cap') (ups SA.A SA.A.length) ∧ Pk (fun k => k = P) w w' ta tb SA SA ∧ w'.cell? ⟨P, 2, none⟩ = some (.slice (some ⟨b, off, none⟩) len cap))) := fun w11 u h => by
          refine (pk_awake h.out.2.1.swap).mono ?_
          rintro e w' ⟨a, c, rfl, q1, q2⟩
          exact ⟨a, c, rfl, h.out.1.ext q2, q1, h.out.2.1.ext q2, q2.keepc h.out.2.2⟩
        have HEq : Hid (∀ w11 u v, Hid (RdI w11 u (ups SA.A SA.A.length) ∧ RdI w11 v (ups SA.A SA.A.length) ∧ Pk (fun k => k = P) w w11 ta tb SA SA ∧ w11.cell? ⟨P, 2, none⟩ = some (.slice (some ⟨b, off, none⟩) len cap)) → Calls Try.prog 21 #[u, v] w11 fun e w' => e = .returned (.bool true) ∧ Hid (Pk (fun k => k = P) w w' ta tb SA SA ∧ w'.cell? ⟨P, 2, none⟩ = some (.slice (some ⟨b, off, none⟩) len cap))) := fun w11 u v h => by
          refine (eq_nums u v w11 h.out.1 h.out.2.1 (by have := ups_le SA.A SA.A.length; have := HBt.out.2.2; omega)).mono ?_
          rintro e w' ⟨rfl, x⟩
          exact ⟨rfl, h.out.2.2.1.ext x, x.keepc h.out.2.2.2⟩
        have HNa : Hid (∀ w11, Hid (Pk (fun k => k = P) w w11 ta tb SA SA ∧ w11.cell? ⟨P, 2, none⟩ = some (.slice (some ⟨b, off, none⟩) len cap)) → Calls Try.prog 25 #[.pointer (some ⟨ta, 0, none⟩)] w11 fun e w' => e = .returned (.int .i64 SA.now) ∧ w' = w11) := fun w11 h => pk_now h.out.1
        have HNb : Hid (∀ w11, Hid (Pk (fun k => k = P) w w11 ta tb SA SA ∧ w11.cell? ⟨P, 2, none⟩ = some (.slice (some ⟨b, off, none⟩) len cap)) → Calls Try.prog 25 #[.pointer (some ⟨tb, 0, none⟩)] w11 fun e w' => e = .returned (.int .i64 SA.now) ∧ w' = w11) := fun w11 h => pk_now h.out.1.swap
        go_wp2_with (first | (go_at_call 24; refine HTa.out.mono ?_; rintro e w9 ⟨rfl, p9⟩; clear HTa) | (go_at_call 24; refine (HTb1.out _ p9).mono ?_; rintro e w10 ⟨rfl, p10⟩; clear p9 HTb1) | (go_at_call 24; refine (HTb2.out _ p10).mono ?_; rintro e w11 ⟨rfl, p11⟩; clear p10 HTb2) | (go_at_call 8; refine (HN.out _ _).mono ?_; rintro e wx ⟨rfl, hwx⟩; have hwy := hwx.symm; clear hwx; subst hwy) | (go_at_call 26; refine (HAa.out _ p11).mono ?_; rintro e w12 ⟨a12, c12, rfl, p12⟩; clear p11 HAa) | (go_at_call 26; refine (HAb.out _ _ p12).mono ?_; rintro e w13 ⟨a13, c13, rfl, p13⟩; clear p12 HAb) | (go_at_call 21; refine (HEq.out _ _ _ p13).mono ?_; rintro e w14 ⟨rfl, p14⟩; clear p13 HEq) | (go_at_call 25; refine (HNa.out _ p14).mono ?_; rintro e wx ⟨rfl, hwx⟩; have hwy := hwx.symm; clear hwx; subst hwy; clear HNa) | (go_at_call 25; refine (HNb.out _ p14).mono ?_; rintro e wx ⟨rfl, hwx⟩; have hwy := hwx.symm; clear hwx; subst hwy; clear HNb))
        go_roundw
        case measure => simp [intOf]; omega
        case rel => exact ⟨k + 1, by omega, by omega, by simp, ⟨SA, p14.out.1, p14.out.2, by have := HBt.out.1; omega, by have := HBt.out.2.1; omega, HBt.out.2.2⟩⟩
      · have hlt' : (k : Int) < (len : Int) := by omega
        have h12' : ¬ (k : Int) < 12 := by omega
        have HXe : Hid (Ext w wr) := h1.x
        clear hK h1 h3 h4 h5 HE0
        go_wp2_with (go_at_call 9; refine (HWk.out _).mono ?_; rintro e w3 ⟨rfl, x3⟩)
        go_ret
        exact ⟨rfl, HXe.out.trans x3⟩
    · have hlt' : ¬ (k : Int) < (len : Int) := by omega
      have HXe : Hid (Ext w wr) := h1.x
      clear hK h1 h3 h4 h5 HE0
      go_wp2_with (go_at_call 9; refine (HWk.out _).mono ?_; rintro e w3 ⟨rfl, x3⟩)
      go_ret
      exact ⟨rfl, HXe.out.trans x3⟩
end Go.Proofs.Ytehphgpkhfokhaa
