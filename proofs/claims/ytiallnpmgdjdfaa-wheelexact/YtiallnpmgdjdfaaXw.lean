/- WheelExact: its walk. -/
import Derived.Test.YtiallnpmgdjdfaaXv
import Derived.Deep.CutBlock
namespace Go.Proofs.Ytiallnpmgdjdfaa
open Go.RowKit
/-- what the loop keeps -/
def Ek (w wr : World) (p q : Nat) (v u : Value) (S : List Tm) (T : Int) (k : Nat) : Prop := Ex w wr p v S T q u S ∧ T ≤ k
theorem Ek.len {w wr : World} {p q : Nat} {v u : Value} {S : List Tm} {T : Int} {k : Nat} (h : Ek w wr p q v u S T k) : S.length ≤ k := by
  obtain ⟨xs, _, hw⟩ := h.1.a
  have := hw.2.2.2.2.1.2
  have := h.2
  omega
set_option maxRecDepth 20000 in
set_option maxHeartbeats 8000000 in
theorem exact_law (a : Option Addr) (len cap : Nat) (D N A : Nat → Int) (w : World) (hl : len ≤ maxLen) (hc : Acts w a len D N A) :
    Calls Try.prog 3 #[.slice a len cap] w fun e w' => e = .returned (.bool true) ∧ Ext w w' := by
  have hl' : len ≤ 9223372036854775807 := by unfold maxLen at hl; omega
  have HW := new_any w
  have HN : Hid (∀ v w', Calls Try.prog 9 #[.int .i64 v] w' fun e w'' => e = .returned (.int .i64 v) ∧ w'' = w') := num_any
  have HWk : Hid (∀ w', Calls Try.prog 20 #[] w' fun e w'' => e = .returned (.bool true) ∧ Ext w' w'') := wakes_any
  have HA : Hid (Acts w a len D N A) := hc
  clear hc
  go_enter Try.func3, Try.ntmps3
  go_upto_region 5 with (go_at_call 6; refine HW.mono ?_; rintro e w1 ⟨rfl, r1, x1⟩; clear HW)
  have H0 : Hid (Ek w (w1.alloc (.cells #[.slice none 0 0] 28)) w.heap.size w1.heap.size (.slice none 0 0) (.slice none 0 0) [] 0 0) := ⟨ex_new r1 x1 rfl, by simp⟩
  clear r1 x1
  generalize w1.alloc (.cells #[.slice none 0 0] 28) = W0 at *
  generalize w1.heap.size = q0 at *
  generalize hpa : w.heap.size = p0 at *
  have HPA : Hid (w.heap.size = p0) := hpa
  clear hpa
  go_wp2_with fail
  go_loopw [5] (fun s5 wr => ∃ (k : Nat) (S : List Tm) (T : Int) (v u : Value), k ≤ len ∧ k ≤ 60 ∧ s5 = .int .i64 k ∧ Hid (Ek w wr p0 q0 v u S T k)) (fun s5 _ => len - (intOf s5).toNat)
  case atStart => exact ⟨0, [], 0, _, _, Nat.zero_le _, by omega, rfl, H0⟩
  case round =>
    obtain ⟨k, S, T, v, u, hk, hk60, rfl, hK⟩ := hrel
    clear H0
    by_cases hlt : k < len
    · by_cases h60 : k < 60
      · have hA := HA.out.ext hK.out.1.x
        obtain ⟨b, off, ea, _⟩ := hA k hlt
        subst ea
        obtain ⟨y0, y1, y2, _⟩ := hA.row hlt
        obtain ⟨q, hq, HQ0⟩ := within_any (D k) 8 (by omega) (by omega)
        have HQ : Hid (∀ w, Calls Try.prog 7 #[.int .i64 (D k), .int .i64 8] w fun e w' => e = .returned (.int .i64 q) ∧ w' = w) := HQ0
        clear HQ0 hA
        go_upto_region 9 with fail
        have HK1 : Hid (Ek w (wr.alloc (.cells #[.int .i64 (D k), .int .i64 (N k), .int .i64 (A k)] 30)) p0 q0 v u S T k) := ⟨hK.out.1.ext ((Ext.refl wr).alloc _), hK.out.2⟩
        have hX0 : (wr.alloc (.cells #[.int .i64 (D k), .int .i64 (N k), .int .i64 (A k)] 30)).cell? ⟨wr.heap.size, 0, none⟩ = some (.int .i64 (D k)) := by simp [go_sem]
        have hX1 : (wr.alloc (.cells #[.int .i64 (D k), .int .i64 (N k), .int .i64 (A k)] 30)).cell? ⟨wr.heap.size, 1, none⟩ = some (.int .i64 (N k)) := by simp [go_sem]
        have hX2 : (wr.alloc (.cells #[.int .i64 (D k), .int .i64 (N k), .int .i64 (A k)] 30)).cell? ⟨wr.heap.size, 2, none⟩ = some (.int .i64 (A k)) := by simp [go_sem]
        have HXw : Hid (∀ j, own p0 v j ∨ own q0 u j → j ≠ wr.heap.size) := fun j o => by
          rcases o with o | o
          · have := hK.out.1.a.lt j o; omega
          · have := hK.out.1.b.lt j o; omega
        clear y0 y1 y2 hK
        generalize wr.alloc (.cells #[.int .i64 (D k), .int .i64 (N k), .int .i64 (A k)] 30) = W at *
        generalize wr.heap.size = X at *
        rw [show decide ((k : Int) < 60) = true from decide_eq_true (by omega)]
        go_cut [7] from 33 to 40 (fun s7 wx => s7 = .bool (decide (0 ≤ N k ∧ N k < 64)) ∧ wx = W)
        case first =>
          by_cases h1 : 0 ≤ N k
          · by_cases h2 : N k < 64
            · have hd : decide (0 ≤ N k ∧ N k < 64) = true := decide_eq_true ⟨h1, h2⟩
              have HD : Hid (decide (0 ≤ N k ∧ N k < 64) = true) := hd
              clear hd
              go_wp2_with fail
              go_meet
              exact ⟨by rw [HD.out], rfl⟩
            · have HD : Hid (decide (0 ≤ N k ∧ N k < 64) = false) := decide_eq_false (by omega)
              go_wp2_with fail
              go_meet
              exact ⟨by rw [HD.out], rfl⟩
          · have HD : Hid (decide (0 ≤ N k ∧ N k < 64) = false) := decide_eq_false (by omega)
            go_wp2_with fail
            go_meet
            exact ⟨by rw [HD.out], rfl⟩
        case rest =>
          obtain ⟨rfl, rfl⟩ := hcut
          generalize hmb : decide (0 ≤ N k ∧ N k < 64) = mb
          have HMB : Hid (decide (0 ≤ N k ∧ N k < 64) = mb) := hmb
          clear hmb
          go_upto_block 2 with (go_at_call 7; refine (HQ.out _).mono ?_; rintro e wx ⟨rfl, hwx⟩; have hwy := hwx.symm; clear hwx; subst hwy)
          have hS60 : S.length ≤ 60 := by have := HK1.out.len; omega
          have HS60 : Hid (S.length ≤ 60) := hS60
          clear hS60
          go_cut [8, 9, 10, 11, 12, 13] from 44 to 143 (fun _ _ _ _ _ _ wx => ∃ (S' : List Tm) (T' : Int) (v' u' : Value), Hid (Ek w wx p0 q0 v' u' S' T' (k + 1)))
          case first =>
            have hq2 : q = 3 ∨ q = 4 ∨ q = 5 ∨ q = 6 ∨ q = 7 ∨ q < 3 := by omega
            rcases hq2 with rfl | rfl | rfl | rfl | rfl | hq3
            · by_cases hv : 0 ≤ N k ∧ N k < 64
              · have HRc := rcancel_any (N k) wc HK1.out.1.b (by have := HS60.out; omega)
                have HCa : Hid (∀ u1 w1, RW w1 q0 u1 (filt (N k) S) → Turn (fun k => k = q0) wc w1 → (∀ j, u1.ownBlock = some j → wc.heap.size ≤ j) → Calls Try.prog 10 #[.pointer (some ⟨p0, 0, none⟩), .int .i64 (N k)] w1 fun e w' => e = .returned (.int .i64 (if ∃ t ∈ S, t.1 = N k then 0 else 5)) ∧ ∃ v', Ek w w' p0 q0 v' u1 (filt (N k) S) T (k + 1)) := fun u1 w1 h1 t1 k1 => by
                  have e1 := HK1.out.1.right t1 h1 k1
                  refine (cancel_any (N k) w1 e1.a (by have := HK1.out.2; omega) hv).mono ?_
                  rintro e w' ⟨rfl, v', h2, g2⟩
                  exact ⟨rfl, v', e1.left g2 h2, by have := HK1.out.2; omega⟩
                have hXq : ¬ X = q0 := fun e => HXw.out q0 (.inr (.inl rfl)) e.symm
                have em : mb = true := by rw [← HMB.out]; exact decide_eq_true hv
                subst em
                clear hv HMB
                by_cases hm : ∃ t ∈ S, t.1 = N k
                · rw [decide_eq_true hm] at HRc
                  rw [if_pos hm] at HCa
                  clear hm
                  go_wp2_with (first | (go_at_call 8; refine HRc.mono ?_; rintro e w1 ⟨rfl, u1, h1, t1, k1⟩; have hX1 := t1.keepc hXq hX1) | (go_at_call 10; refine (HCa.out _ _ h1 t1 k1).mono ?_; rintro e w2 ⟨rfl, v2, h2⟩) | (go_at_call 9; refine (HN.out _ _).mono ?_; rintro e wx ⟨rfl, hwx⟩; have hwy := hwx.symm; clear hwx; subst hwy))
                  go_meet
                  exact ⟨_, T, v2, u1, h2⟩
                · rw [decide_eq_false hm] at HRc
                  rw [if_neg hm] at HCa
                  clear hm
                  go_wp2_with (first | (go_at_call 8; refine HRc.mono ?_; rintro e w1 ⟨rfl, u1, h1, t1, k1⟩; have hX1 := t1.keepc hXq hX1) | (go_at_call 10; refine (HCa.out _ _ h1 t1 k1).mono ?_; rintro e w2 ⟨rfl, v2, h2⟩) | (go_at_call 9; refine (HN.out _ _).mono ?_; rintro e wx ⟨rfl, hwx⟩; have hwy := hwx.symm; clear hwx; subst hwy))
                  go_meet
                  exact ⟨_, T, v2, u1, h2⟩
              · have HCb := cancel_bad (p := p0) (N k) wc hv
                have HE1 : Hid (Ek w wc p0 q0 v u S T (k + 1)) := ⟨HK1.out.1, by have := HK1.out.2; omega⟩
                have em : mb = false := by rw [← HMB.out]; exact decide_eq_false hv
                subst em
                clear hv HMB
                go_wp2_with (first | (go_at_call 10; refine HCb.mono ?_; rintro e wx ⟨rfl, hwx⟩; have hwy := hwx.symm; clear hwx; subst hwy) | (go_at_call 9; refine (HN.out _ _).mono ?_; rintro e wx ⟨rfl, hwx⟩; have hwy := hwx.symm; clear hwx; subst hwy))
                go_meet
                exact ⟨S, T, v, u, HE1⟩
            · have HNx := wh_next wc HK1.out.1.a
              have HE1 : Hid (Ek w wc p0 q0 v u S T (k + 1)) := ⟨HK1.out.1, by have := HK1.out.2; omega⟩
              obtain ⟨ua, uc, eu, _, hu⟩ := HK1.out.1.b.shape
              have hcu := HK1.out.1.b.1.1
              rw [eu] at hcu
              cases S with
              | nil =>
                rw [headAt_nil, hasOne_nil] at HNx
                simp only [List.length_nil] at hcu
                clear eu hu
                go_wp2_with (go_at_call 11; refine HNx.mono ?_; rintro e wx ⟨rfl, hwx⟩; have hwy := hwx.symm; clear hwx; subst hwy)
                go_meet
                exact ⟨_, T, v, u, HE1⟩
              | cons s l =>
                rw [headAt_cons, hasOne_cons] at HNx
                obtain ⟨g, rfl, c0, c1⟩ := hu 0 (by simp)
                rw [show gt (s :: l) 0 = s from rfl] at c1
                have c1' : wc.cell? ⟨g, 1, none⟩ = some (.int .i64 s.2.1) := by simpa using c1
                have hlp : 0 < (s :: l).length := by simp
                have hlx : (0 : Int) < ((s :: l).length : Int) := by omega
                have hlx2 : ((s :: l).length : Int) ≠ 0 := by omega
                clear eu hu c0 c1
                generalize (s :: l).length = sl at *
                generalize s.2.1 = nx at *
                go_wp2_with (go_at_call 11; refine HNx.mono ?_; rintro e wx ⟨rfl, hwx⟩; have hwy := hwx.symm; clear hwx; subst hwy)
                go_meet
                exact ⟨_, T, v, u, HE1⟩
            · have HAl2 := all_sl wc HK1.out.1.a (by have := HK1.out.2; omega)
              obtain ⟨ua, uc, eu, _, _⟩ := HK1.out.1.b.shape
              have hcu := HK1.out.1.b.1.1
              have HEq : Hid (∀ r w1, Ext wc w1 → w1.ownsRow wc.heap.size Ea 2 r S.length (flat2 S) → Calls Try.prog 13 #[r, u] w1 fun e w' => e = .returned (.bool true) ∧ Ext wc w' ∧ Ext w1 w') := fun r w1 x h => (eq_timers r u w1 (rd_row h) (rd_row (HK1.out.1.b.ext x).2.1) (by have := HS60.out; omega)).mono fun _ _ ⟨he, hx⟩ => ⟨he, x.trans hx, hx⟩
              have HSp : Hid (∀ r w1, Ext wc w1 → w1.ownsRow wc.heap.size Ea 2 r S.length (flat2 S) → Calls Try.prog 14 #[r] w1 fun e w' => (∃ z, e = .returned z) ∧ Ek w w' p0 q0 v u S T (k + 1)) := fun r w1 x h => by
                refine (spoil_any r (HK1.out.1.ext x) ⟨S, rfl, h⟩ (by have := HS60.out; omega) HK1.out.1.x.size (fun j o e => ?_) (fun j o e => ?_)).mono fun _ _ ⟨he, h2⟩ => ⟨he, h2, by have := HK1.out.2; omega⟩
                · have h1 := HK1.out.1.a.lt j o
                  have h2 := (h.lt j e).1
                  omega
                · have h1 := HK1.out.1.b.lt j o
                  have h2 := (h.lt j e).1
                  omega
              subst eu
              generalize S.length = sl at *
              go_wp2_with (first | (go_at_call 12; refine HAl2.mono ?_; rintro e w1 ⟨a1, c1, rfl, o1, x1⟩; have hcu1 := x1.keepc hcu) | (go_at_call 13; refine (HEq.out _ _ x1 o1).mono ?_; rintro e w2 ⟨rfl, x2, x3⟩) | (go_at_call 14; refine (HSp.out _ _ x2 (row_ext o1 x3)).mono ?_; rintro e w3 ⟨⟨z, rfl⟩, h3⟩))
              go_meet
              exact ⟨S, T, v, _, h3⟩
            · have HT1 := take_own (A k) wc HK1.out.1.a (by have := HK1.out.2; omega)
              have HT2 : Hid (∀ v1 w1, Wh w1 p0 v1 (left (A k) S) T → v1.ownBlock = v.ownBlock → Turn (own p0 v) wc w1 → Calls Try.prog 16 #[.pointer (some ⟨q0, 0, none⟩), .int .i64 (A k)] w1 fun e w' => ∃ r, e = .returned r ∧ w'.ownsRow w1.heap.size Ea 2 r (due (A k) S).length (flat2 (due (A k) S)) ∧ Turn (fun k => k = q0) w1 w' ∧ ∃ u2, Ek w w' p0 q0 v1 u2 (left (A k) S) T (k + 1) ∧ ∀ j, u2.ownBlock = some j → w1.heap.size ≤ j) := fun v1 w1 h1 e1 t1 => by
                have x1 := HK1.out.1.left ⟨t1, fun j hj => .inl (by rw [← e1]; exact hj)⟩ h1
                refine (rtake_any (A k) w1 x1.b (by have := HS60.out; omega)).mono ?_
                rintro e w' ⟨r, rfl, q1, u2, q2, q3, q4⟩
                exact ⟨r, rfl, q1, q3, u2, ⟨x1.right q3 q2 q4, by have := HK1.out.2; omega⟩, q4⟩
              have HLd : Hid ((due (A k) S).length ≤ 60) := by show _ ≤ _; have := due_len (A k) S; have := HS60.out; omega
              have HEq : Hid (∀ r y w1, w1.ownsRow 0 Ea 2 r (due (A k) S).length (flat2 (due (A k) S)) → w1.ownsRow 0 Ea 2 y (due (A k) S).length (flat2 (due (A k) S)) → Calls Try.prog 13 #[r, y] w1 fun e w' => e = .returned (.bool true) ∧ Ext w1 w') := fun r y w1 h1 h2 => eq_timers r y w1 (rd_row h1) (rd_row h2) (by have := HLd.out; omega)
              have hXp : ¬ own p0 v X := fun o => HXw.out X (.inl o) rfl
              have HQ0 : Hid (q0 < wc.heap.size) := HK1.out.1.b.lt q0 (.inl rfl)
              have HSz : Hid (w.heap.size ≤ wc.heap.size) := HK1.out.1.x.size
              have HOv : Hid (∀ j, own p0 v j → j < wc.heap.size) := HK1.out.1.a.lt
              obtain ⟨dn, edn⟩ : ∃ dn, dn = (due (A k) S).length := ⟨_, rfl⟩
              rw [← edn] at HT1 HT2 HEq HLd
              have HDn : Hid (dn = (due (A k) S).length) := edn
              clear edn
              go_upto_region 37 with (go_at_call 15; refine HT1.mono ?_; rintro e w1 ⟨a1, c1, rfl, o1, v1, h1, e1, t1⟩)
              have hX2' := t1.keepc hXp hX2
              have HR1 := HT2.out v1 w1 h1 e1 t1
              have HO1 : Hid (w1.ownsRow wc.heap.size Ea 2 (.slice a1 dn c1) dn (flat2 (due (A k) S))) := o1
              have HV1 : Hid (∀ j, own p0 v1 j → j < wc.heap.size) := fun j o => HOv.out j (by rcases o with o | o; exact .inl o; exact .inr (by rw [← e1]; exact o))
              clear HT1 HT2 o1 h1 e1 t1
              go_upto_region 39 with (first | (go_at_call 16; refine HR1.mono ?_; rintro e w2 ⟨r2, rfl, o2, t2, u2, h2, k2⟩; have HO2 : Hid (w2.ownsRow wc.heap.size Ea 2 (.slice a1 dn c1) dn (flat2 (due (A k) S))) := (row_turn HO1.out t2 (fun j o => by have := HQ0.out; omega)); have HH2 : Hid (Ek w w2 p0 q0 v1 u2 (left (A k) S) T (k + 1)) := h2; have HB1 : Hid (∀ j, (Value.slice a1 dn c1).ownBlock = some j → j < w1.heap.size) := (fun j hj => (HO1.out.lt j hj).2); clear h2) | (go_at_call 13; refine (HEq.out _ _ _ (row_mono HO2.out (Nat.zero_le _)) (row_mono o2 (Nat.zero_le _))).mono ?_; rintro e w3 ⟨rfl, x3⟩))
              have HSp : Calls Try.prog 14 #[.slice a1 dn c1] w3 fun e w' => (∃ z, e = .returned z) ∧ Ek w w' p0 q0 v1 u2 (left (A k) S) T (k + 1) := by
                refine (spoil_any (B := wc.heap.size) (n := dn) _ (HH2.out.1.ext x3) ⟨due (A k) S, HDn.out.symm, row_ext HO2.out x3⟩ (by have := HLd.out; omega) HSz.out (fun j o e => ?_) (fun j o e => ?_)).mono fun _ _ ⟨he, h2⟩ => ⟨he, h2, HH2.out.2⟩
                · have z1 := HV1.out j o
                  have z2 := (HO2.out.lt j e).1
                  omega
                · rcases o with o | o
                  · have z2 := (HO2.out.lt j e).1
                    have := HQ0.out
                    omega
                  · have z1 := k2 j o
                    have z2 := HB1.out j e
                    omega
              clear o2 t2 k2
              go_wp2_with (go_at_call 14; refine HSp.mono ?_; rintro e w4 ⟨⟨z, rfl⟩, h4⟩)
              go_meet
              exact ⟨_, T, v1, u2, h4⟩
            · have HT1 := take_own (A k) wc HK1.out.1.a (by have := HK1.out.2; omega)
              have HT2 : Hid (∀ v1 w1, Wh w1 p0 v1 (left (A k) S) T → v1.ownBlock = v.ownBlock → Turn (own p0 v) wc w1 → Calls Try.prog 16 #[.pointer (some ⟨q0, 0, none⟩), .int .i64 (A k)] w1 fun e w' => ∃ r, e = .returned r ∧ w'.ownsRow w1.heap.size Ea 2 r (due (A k) S).length (flat2 (due (A k) S)) ∧ Turn (fun k => k = q0) w1 w' ∧ ∃ u2, Ek w w' p0 q0 v1 u2 (left (A k) S) T (k + 1) ∧ ∀ j, u2.ownBlock = some j → w1.heap.size ≤ j) := fun v1 w1 h1 e1 t1 => by
                have x1 := HK1.out.1.left ⟨t1, fun j hj => .inl (by rw [← e1]; exact hj)⟩ h1
                refine (rtake_any (A k) w1 x1.b (by have := HS60.out; omega)).mono ?_
                rintro e w' ⟨r, rfl, q1, u2, q2, q3, q4⟩
                exact ⟨r, rfl, q1, q3, u2, ⟨x1.right q3 q2 q4, by have := HK1.out.2; omega⟩, q4⟩
              have HLd : Hid ((due (A k) S).length ≤ 60) := by show _ ≤ _; have := due_len (A k) S; have := HS60.out; omega
              have HEq : Hid (∀ r y w1, w1.ownsRow 0 Ea 2 r (due (A k) S).length (flat2 (due (A k) S)) → w1.ownsRow 0 Ea 2 y (due (A k) S).length (flat2 (due (A k) S)) → Calls Try.prog 13 #[r, y] w1 fun e w' => e = .returned (.bool true) ∧ Ext w1 w') := fun r y w1 h1 h2 => eq_timers r y w1 (rd_row h1) (rd_row h2) (by have := HLd.out; omega)
              have hXp : ¬ own p0 v X := fun o => HXw.out X (.inl o) rfl
              have HQ0 : Hid (q0 < wc.heap.size) := HK1.out.1.b.lt q0 (.inl rfl)
              have HSz : Hid (w.heap.size ≤ wc.heap.size) := HK1.out.1.x.size
              have HOv : Hid (∀ j, own p0 v j → j < wc.heap.size) := HK1.out.1.a.lt
              obtain ⟨dn, edn⟩ : ∃ dn, dn = (due (A k) S).length := ⟨_, rfl⟩
              rw [← edn] at HT1 HT2 HEq HLd
              have HDn : Hid (dn = (due (A k) S).length) := edn
              clear edn
              go_upto_region 37 with (go_at_call 15; refine HT1.mono ?_; rintro e w1 ⟨a1, c1, rfl, o1, v1, h1, e1, t1⟩)
              have hX2' := t1.keepc hXp hX2
              have HR1 := HT2.out v1 w1 h1 e1 t1
              have HO1 : Hid (w1.ownsRow wc.heap.size Ea 2 (.slice a1 dn c1) dn (flat2 (due (A k) S))) := o1
              have HV1 : Hid (∀ j, own p0 v1 j → j < wc.heap.size) := fun j o => HOv.out j (by rcases o with o | o; exact .inl o; exact .inr (by rw [← e1]; exact o))
              clear HT1 HT2 o1 h1 e1 t1
              go_upto_region 39 with (first | (go_at_call 16; refine HR1.mono ?_; rintro e w2 ⟨r2, rfl, o2, t2, u2, h2, k2⟩; have HO2 : Hid (w2.ownsRow wc.heap.size Ea 2 (.slice a1 dn c1) dn (flat2 (due (A k) S))) := (row_turn HO1.out t2 (fun j o => by have := HQ0.out; omega)); have HH2 : Hid (Ek w w2 p0 q0 v1 u2 (left (A k) S) T (k + 1)) := h2; have HB1 : Hid (∀ j, (Value.slice a1 dn c1).ownBlock = some j → j < w1.heap.size) := (fun j hj => (HO1.out.lt j hj).2); clear h2) | (go_at_call 13; refine (HEq.out _ _ _ (row_mono HO2.out (Nat.zero_le _)) (row_mono o2 (Nat.zero_le _))).mono ?_; rintro e w3 ⟨rfl, x3⟩))
              have HSp : Calls Try.prog 14 #[.slice a1 dn c1] w3 fun e w' => (∃ z, e = .returned z) ∧ Ek w w' p0 q0 v1 u2 (left (A k) S) T (k + 1) := by
                refine (spoil_any (B := wc.heap.size) (n := dn) _ (HH2.out.1.ext x3) ⟨due (A k) S, HDn.out.symm, row_ext HO2.out x3⟩ (by have := HLd.out; omega) HSz.out (fun j o e => ?_) (fun j o e => ?_)).mono fun _ _ ⟨he, h2⟩ => ⟨he, h2, HH2.out.2⟩
                · have z1 := HV1.out j o
                  have z2 := (HO2.out.lt j e).1
                  omega
                · rcases o with o | o
                  · have z2 := (HO2.out.lt j e).1
                    have := HQ0.out
                    omega
                  · have z1 := k2 j o
                    have z2 := HB1.out j e
                    omega
              clear o2 t2 k2
              go_wp2_with (go_at_call 14; refine HSp.mono ?_; rintro e w4 ⟨⟨z, rfl⟩, h4⟩)
              go_meet
              exact ⟨_, T, v1, u2, h4⟩
            · have hne3 : ¬ (q : Int) = 3 := by omega
              have hne4 : ¬ (q : Int) = 4 := by omega
              have hne5 : ¬ (q : Int) = 5 := by omega
              have hne6 : ¬ (q : Int) = 6 := by omega
              have hne7 : ¬ (q : Int) = 7 := by omega
              have HMy := may_any (N k) (A k) wc
              by_cases hok : okT (N k) (A k)
              · rw [dok_true hok] at HMy
                have HRs := rset_any (N k) (A k) (T + 1) wc HK1.out.1.b (by have := HS60.out; omega)
                have HSe : Hid (∀ u1 w1, RW w1 q0 u1 (ins (N k, A k, T + 1) (filt (N k) S)) → Turn (fun k => k = q0) wc w1 → (∀ j, u1.ownBlock = some j → wc.heap.size ≤ j) → Calls Try.prog 19 #[.pointer (some ⟨p0, 0, none⟩), .int .i64 (N k), .int .i64 (A k)] w1 fun e w' => e = .returned (.int .i64 0) ∧ ∃ v', Ek w w' p0 q0 v' u1 (ins (N k, A k, T + 1) (filt (N k) S)) (T + 1) (k + 1)) := fun u1 w1 h1 t1 k1 => by
                  have e1 := HK1.out.1.right t1 h1 k1
                  refine (set_any (N k) (A k) w1 e1.a (by have := HK1.out.2; omega) hok).mono ?_
                  rintro e w' ⟨rfl, v', h2, g2⟩
                  exact ⟨rfl, v', e1.left g2 h2, by have := HK1.out.2; omega⟩
                have hXq : ¬ X = q0 := fun e => HXw.out q0 (.inr (.inl rfl)) e.symm
                clear hok
                go_wp2_with (first | (go_at_call 17; refine HMy.mono ?_; rintro e wx ⟨rfl, hwx⟩; have hwy := hwx.symm; clear hwx; subst hwy) | (go_at_call 18; refine HRs.mono ?_; rintro e w1 ⟨⟨z, rfl⟩, u1, h1, t1, k1⟩; have hX1 := t1.keepc hXq hX1; have hX2 := t1.keepc hXq hX2) | (go_at_call 19; refine (HSe.out _ _ h1 t1 k1).mono ?_; rintro e w2 ⟨rfl, v2, h2⟩) | (go_at_call 9; refine (HN.out _ _).mono ?_; rintro e wx ⟨rfl, hwx⟩; have hwy := hwx.symm; clear hwx; subst hwy))
                go_meet
                exact ⟨_, T + 1, v2, u1, h2⟩
              · rw [dok_false hok] at HMy
                have HSb := set_bad (p := p0) (N k) (A k) wc hok
                have HE1 : Hid (Ek w wc p0 q0 v u S T (k + 1)) := ⟨HK1.out.1, by have := HK1.out.2; omega⟩
                clear hok
                go_wp2_with (first | (go_at_call 17; refine HMy.mono ?_; rintro e wx ⟨rfl, hwx⟩; have hwy := hwx.symm; clear hwx; subst hwy) | (go_at_call 19; refine HSb.mono ?_; rintro e wx ⟨rfl, hwx⟩; have hwy := hwx.symm; clear hwx; subst hwy) | (go_at_call 9; refine (HN.out _ _).mono ?_; rintro e wx ⟨rfl, hwx⟩; have hwy := hwx.symm; clear hwx; subst hwy))
                go_meet
                exact ⟨S, T, v, u, HE1⟩
          case rest =>
            obtain ⟨S', T', v', u', hE⟩ := hcut
            obtain ⟨ua, uc, rfl, _, _⟩ := hE.out.1.b.shape
            have HAl := all_sl wc hE.out.1.a (by have := hE.out.2; omega)
            have hcu := hE.out.1.b.1.1
            have HEq : Hid (∀ r w', Ext wc w' → w'.ownsRow wc.heap.size Ea 2 r S'.length (flat2 S') → Calls Try.prog 13 #[r, .slice ua S'.length uc] w' fun e w'' => e = .returned (.bool true) ∧ Ext wc w'') := fun r w' x h => (eq_timers r _ w' (rd_row h) (rd_row (hE.out.1.b.ext x).2.1) (by have := hE.out.len; omega)).mono fun _ _ ⟨he, hx⟩ => ⟨he, x.trans hx⟩
            have HEnd : Hid (∀ w', Ext wc w' → Ek w w' p0 q0 v' (.slice ua S'.length uc) S' T' (k + 1)) := fun w' x => ⟨hE.out.1.ext x, hE.out.2⟩
            have HAl' : Hid (∀ m, Calls Try.prog 12 #[.pointer (some ⟨p0, 0, none⟩)] (wc.drewN m) fun e w' => ∃ a n cap, e = .returned (.slice a n cap) ∧ w'.ownsRow wc.heap.size Ea 2 (.slice a n cap) S'.length (flat2 S') ∧ Ext wc w') := fun m => (all_sl (wc.drewN m) (hE.out.1.a.ext (drewN_ext m)) (by have := hE.out.2; omega)).mono fun _ _ ⟨a, c, he, h1, h2⟩ => ⟨a, _, c, he, h1, (drewN_ext m).trans h2⟩
            have HCU : Hid (wc.cell? ⟨q0, 0, none⟩ = some (.slice ua S'.length uc)) := hcu
            generalize S'.length = sl at *
            clear HAl hE HK1 HQ hX0 hX1 hX2 HXw
            go_upto_region 40 with fail
            go_region_held (fun w' => w'.cell? ⟨q0, 0, none⟩ = some (.slice ua sl uc)) (first | (go_keep; done) | skip) (first | (go_at_call 12; refine (HAl'.out 1).mono ?_; rintro e w2 ⟨a2, n2, c2, rfl, o2, x2⟩; have hcu := x2.keepc HCU.out) | (go_at_call 13; refine (HEq.out _ _ x2 o2).mono ?_; rintro e w3 ⟨rfl, x3⟩; have hcu := x3.keepc HCU.out))
            all_goals
              have HE3 : Hid (Ek w w3 p0 q0 v' (.slice ua sl uc) S' T' (k + 1)) := HEnd.out w3 x3
              go_wp2_with fail
              go_roundw
              case measure => simp [intOf]; omega
              case rel => exact ⟨k + 1, S', T', v', _, by omega, by omega, by simp, HE3⟩
      · go_wp2_with (go_at_call 20; refine (HWk.out _).mono ?_; rintro e wk ⟨rfl, xk⟩)
        go_ret
        exact ⟨rfl, hK.out.1.x.trans xk⟩
    · go_wp2_with (go_at_call 20; refine (HWk.out _).mono ?_; rintro e wk ⟨rfl, xk⟩)
      go_ret
      exact ⟨rfl, hK.out.1.x.trans xk⟩
end Go.Proofs.Ytiallnpmgdjdfaa
