/- RingOrder. -/
import Derived.Test.YtblpdnpfhjnbgaaL5
namespace Go.Proofs.Ytblpdnpfhjnbgaa
open Go.RowKit Go.Conc
/-- the numbers from o on, m of them -/
def ints (o m : Nat) : List Value := (List.range' o m).map fun j => (.int .i64 (j : Nat) : Value)
theorem ints_len (o m : Nat) : (ints o m).length = m := by simp [ints]
theorem ints_succ (o m : Nat) : ints o (m + 1) = .int .i64 o :: ints (o + 1) m := by simp [ints, List.range'_succ]
theorem ints_snoc (o m : Nat) : ints o m ++ [.int .i64 ((o + m : Nat) : Int)] = ints o (m + 1) := by
  simp [ints, List.range'_1_concat]
/-- nothing has turned but the tape -/
def Quiet (w w' : World) : Prop := ∃ n, w' = w.drewN n
theorem Quiet.ring {w w' : World} {T E : TypeId} {p d c cap : Nat} {l : List Value} (hq : Quiet w w') (h : IsRing w T E p d c cap l) : IsRing w' T E p d c cap l := by
  obtain ⟨n, rfl⟩ := hq; exact h.drewN n
theorem Quiet.ext {W w w' : World} (hq : Quiet w w') (h : Ext W w) : Ext W w' := by
  obtain ⟨n, rfl⟩ := hq; exact ⟨h.os, h.tape, h.output, h.size, h.block⟩
/-- both rings behind some acts: the one holds the numbers from o on, the other one as many texts -/
def Both2 (W wr : World) (n pa da ca pb db cb o m : Nat) (lb : List Value) : Prop :=
  Ri wr pa da ca n (ints o m) ∧ Rs wr pb db cb n lb ∧ lb.length = m ∧ Ext W wr
structure Apart (W : World) (pa da ca pb db cb : Nat) : Prop where
  a1 : W.heap.size ≤ pa
  a2 : W.heap.size ≤ da
  a3 : W.heap.size ≤ ca
  b1 : W.heap.size ≤ pb
  b2 : W.heap.size ≤ db
  b3 : W.heap.size ≤ cb
  p1 : pa ≠ pb ∧ pa ≠ db ∧ pa ≠ cb
  p2 : da ≠ pb ∧ da ≠ db ∧ da ≠ cb
  p3 : ca ≠ pb ∧ ca ≠ db ∧ ca ≠ cb
theorem IsRing.far {w w' : World} {T E : TypeId} {p d c cap : Nat} {l : List Value} (h : IsRing w T E p d c cap l) {p' d' c' : Nat} (hx : Turn p' d' c' w w') (h1 : p ≠ p' ∧ p ≠ d' ∧ p ≠ c') (h2 : d ≠ p' ∧ d ≠ d' ∧ d ≠ c') (h3 : c ≠ p' ∧ c ≠ d' ∧ c ≠ c') : IsRing w' T E p d c cap l := by
  obtain ⟨first, A, buf, s, r, h, hh, hd⟩ := h
  exact ⟨first, A, buf, s, r, h.far hx h1 h2 h3, hh, hd⟩
theorem IsRing.lt {w : World} {T E : TypeId} {p d c cap : Nat} {l : List Value} (h : IsRing w T E p d c cap l) : p < w.heap.size ∧ d < w.heap.size ∧ c < w.heap.size := by
  obtain ⟨first, A, buf, s, r, h, hh, hd⟩ := h
  exact h.lt
section
variable {W wr : World} {n pa da ca pb db cb o m : Nat} {lb : List Value}
theorem Both2.stepA (h : Both2 W wr n pa da ca pb db cb o m lb) (hA : Apart W pa da ca pb db cb) {w' : World} (ht : Turn pa da ca wr w') : Rs w' pb db cb n lb ∧ Ext W w' := by
  obtain ⟨_, h2, _, h4⟩ := h
  obtain ⟨a1, a2, a3, b1, b2, b3, p1, p2, p3⟩ := hA
  refine ⟨IsRing.far h2 ht ?_ ?_ ?_, ht.below h4 (Nat.le_refl _) a1 a2 a3⟩ <;> omega
theorem Both2.stepB {w3 w4 : World} {la : List Value} (h : Ri w3 pa da ca n la) (hx : Ext W w3) (hA : Apart W pa da ca pb db cb) (ht : Turn pb db cb w3 w4) : Ri w4 pa da ca n la ∧ Ext W w4 := by
  obtain ⟨a1, a2, a3, b1, b2, b3, p1, p2, p3⟩ := hA
  exact ⟨IsRing.far h ht p1 p2 p3, ht.below hx (Nat.le_refl _) b1 b2 b3⟩
end
theorem ret_true (w w' : World) (h : Ext w w') : Ending.returned (.bool true) = .returned (.bool true) ∧ Ext w w' := ⟨rfl, h⟩
set_option maxRecDepth 20000 in
set_option maxHeartbeats 4000000 in
theorem order_any (a : Option Addr) (len cap : Nat) (C : Int) (D N : Nat → Int) (S : Nat → ByteArray) (w : World) (hl : len ≤ maxLen) (hc : Acts w a len D N S) :
    Calls Try.prog 4 #[.agg #[.int .i64 C, .slice a len cap]] w fun e w' => e = .returned (.bool true) ∧ Ext w w' := by
  have hl' : len ≤ 9223372036854775807 := by unfold maxLen at hl; omega
  obtain ⟨n0, hn0, HW0⟩ := within_any C 20 (by omega) (by omega)
  have HC : Hid (∀ w, Calls Try.prog 9 #[.int .i64 C, .int .i64 20] w fun e w' => e = .returned (.int .i64 n0) ∧ w' = w) := HW0
  have HN : Hid (∀ v w', Calls Try.prog 7 #[.int .i64 v] w' fun e w'' => e = .returned (.int .i64 v) ∧ w'' = w') := num_any
  have HWk : Hid (∀ w', Calls Try.prog 8 #[] w' fun e w'' => e = .returned (.bool true) ∧ Ext w' w'') := wakes_any
  have HA : Hid (∀ w, Calls Try.prog 17 #[.int .i64 (1 + n0)] w fun e w' => ∃ p d c, e = .returned (.tuple #[.pointer (some ⟨p, 0, none⟩), .int .i64 0]) ∧ Ri w' p d c (1 + n0) [] ∧ w.heap.size ≤ p ∧ w.heap.size ≤ d ∧ w.heap.size ≤ c ∧ Ext w w') := fun w => by
    have := new_i w (1 + n0) (by omega) (by omega); simpa using this
  have HB : Hid (∀ w, Calls Try.prog 18 #[.int .i64 (1 + n0)] w fun e w' => ∃ p d c, e = .returned (.tuple #[.pointer (some ⟨p, 0, none⟩), .int .i64 0]) ∧ Rs w' p d c (1 + n0) [] ∧ w.heap.size ≤ p ∧ w.heap.size ≤ d ∧ w.heap.size ≤ c ∧ Ext w w') := fun w => by
    have := new_s w (1 + n0) (by omega) (by omega); simpa using this
  clear hl HW0
  have hcw : Hid (Acts w a len D N S) := hc
  clear hc
  go_enter Try.func4, Try.ntmps4
  go_wp2_with (first | (go_at_call 9; refine (HC.out _).mono ?_; rintro e wx ⟨rfl, hwx⟩; have hwy := hwx.symm; clear hwx; subst hwy) | (go_at_call 17; refine (HA.out _).mono ?_; rintro e w1 ⟨pa, da, ca, rfl, r1, bpa, bda, bca, x1⟩) | (go_at_call 18; refine (HB.out _).mono ?_; rintro e w2 ⟨pb, db, cb, rfl, r2, bpb, bdb, bcb, x2⟩) | (go_at_call 7; refine (HN.out _ _).mono ?_; rintro e wx ⟨rfl, hwx⟩; have hwy := hwx.symm; clear hwx; subst hwy))
  have hx0 : Ext w (w.alloc (.cells #[.int .i64 C, .slice a len cap] 24)) := (Ext.refl w).alloc _
  have hcW : Hid (Acts (w.alloc (.cells #[.int .i64 C, .slice a len cap] 24)) a len D N S) := hcw.out.ext hx0
  have hzW : Hid ((w.alloc (.cells #[.int .i64 C, .slice a len cap] 24)).cell? ⟨w.heap.size, 1, none⟩ = some (.slice a len cap)) := by
    show _ = _; simp [go_sem]
  generalize hW : w.alloc (.cells #[.int .i64 C, .slice a len cap] 24) = W at *
  have hAp : Hid (Apart W pa da ca pb db cb) := by
    obtain ⟨l1, l2, l3⟩ := IsRing.lt r1
    have s1 := x1.size
    exact ⟨bpa, bda, bca, by omega, by omega, by omega, by omega, by omega, by omega⟩
  have hB2 : Hid (Both2 W w2 (1 + n0) pa da ca pb db cb 0 0 []) := ⟨IsRing.ext r1 x2, r2, rfl, x1.trans x2⟩
  have HX0 : Hid (Ext w W) := hx0
  clear hW hcw hx0 r1 r2 bpa bda bca bpb bdb bcb x1 x2 HC HA HB HN
  generalize w.heap.size = B at *
  go_loopw [8, 9, 10] (fun so si sk wr => ∃ k o m : Nat, ∃ lb : List Value, k ≤ len ∧ k ≤ 60 ∧ sk = .int .i64 k ∧ so = .int .i64 o ∧ si = .int .i64 ((o + m : Nat) : Int) ∧ o + m ≤ k ∧ m ≤ 1 + n0 ∧ Hid (Both2 W wr (1 + n0) pa da ca pb db cb o m lb)) (fun _ _ sk _ => len - (intOf sk).toNat)
  case atStart => exact ⟨0, 0, 0, [], Nat.zero_le _, by omega, rfl, rfl, rfl, by omega, by omega, hB2⟩
  case round =>
    obtain ⟨k, o, m, lb, hk, hk60, rfl, rfl, rfl, hom, hm, hR⟩ := hrel
    clear hB2
    have z1 : wr.cell? ⟨B, 1, none⟩ = some (.slice a len cap) := hR.out.2.2.2.keepc hzW.out
    by_cases hlt : k < len
    · by_cases h60 : k < 60
      · obtain ⟨b, off, ea, _⟩ := hcW.out k hlt
        subst ea
        obtain ⟨y0, y1, y2, _⟩ := (hcW.out.ext hR.out.2.2.2).row hlt
        obtain ⟨q, hq3, HQ0⟩ := within_any (D k) 3 (by omega) (by omega)
        have HQ : Hid (∀ w, Calls Try.prog 9 #[.int .i64 (D k), .int .i64 3] w fun e w' => e = .returned (.int .i64 q) ∧ w' = w) := HQ0
        clear HQ0
        generalize D k = Dk at *
        by_cases hq : q = 0
        · subst hq
          have hlb : lb.length = m := hR.out.2.2.1
          by_cases hm0 : m = 0
          · subst hm0
            have elb : lb = [] := List.length_eq_zero_iff.1 hlb
            subst elb
            have HPa : Hid (∀ w', Ri w' pa da ca (1 + n0) (ints o 0) → Calls Try.prog 19 #[.pointer (some ⟨pa, 0, none⟩)] w' fun e w'' => e = .returned (.tuple #[.int .i64 0, .bool false]) ∧ Ri w'' pa da ca (1 + n0) (ints o 0) ∧ Turn pa da ca w' w'') := fun w' h => pop_i w' h
            have HPb : Hid (∀ w', Rs w' pb db cb (1 + n0) [] → Calls Try.prog 20 #[.pointer (some ⟨pb, 0, none⟩)] w' fun e w'' => e = .returned (.tuple #[.string ⟨#[]⟩, .bool false]) ∧ Rs w'' pb db cb (1 + n0) [] ∧ Turn pb db cb w' w'') := fun w' h => pop_s w' h
            have ra := hR.out.1
            go_wp2_with (first | (go_at_call 9; refine (HQ.out _).mono ?_; rintro e wx ⟨rfl, hwx⟩; have hwy := hwx.symm; clear hwx; subst hwy) | (go_at_call 19; refine (HPa.out _ ra).mono ?_; rintro e w3 ⟨rfl, r3, t3⟩; obtain ⟨rb, x3⟩ := hR.out.stepA hAp.out t3) | (go_at_call 20; refine (HPb.out _ rb).mono ?_; rintro e w4 ⟨rfl, r4, t4⟩))
            have hB4 : Hid (Both2 W w4 (1 + n0) pa da ca pb db cb o 0 []) := ⟨(Both2.stepB r3 x3 hAp.out t4).1, r4, rfl, (Both2.stepB r3 x3 hAp.out t4).2⟩
            clear ra r3 t3 rb x3 r4 t4
            go_roundw
            case measure => simp [intOf]; omega
            case rel => exact ⟨k + 1, o, 0, [], by omega, by omega, by simp, rfl, rfl, by omega, by omega, hB4⟩
          · obtain ⟨m', rfl⟩ : ∃ m', m = m' + 1 := ⟨m - 1, by omega⟩
            obtain ⟨hb, tb, rfl⟩ : ∃ hb tb, lb = hb :: tb := by cases lb with | nil => simp at hlb | cons x y => exact ⟨x, y, rfl⟩
            have HPa : Hid (∀ w', Ri w' pa da ca (1 + n0) (ints o (m' + 1)) → Calls Try.prog 19 #[.pointer (some ⟨pa, 0, none⟩)] w' fun e w'' => e = .returned (.tuple #[.int .i64 o, .bool true]) ∧ Ri w'' pa da ca (1 + n0) (ints (o + 1) m') ∧ Turn pa da ca w' w'') := fun w' h => by
              rw [ints_succ] at h; exact pop_i w' h
            have HPb : Hid (∀ w', Rs w' pb db cb (1 + n0) (hb :: tb) → Calls Try.prog 20 #[.pointer (some ⟨pb, 0, none⟩)] w' fun e w'' => e = .returned (.tuple #[hb, .bool true]) ∧ Rs w'' pb db cb (1 + n0) tb ∧ Turn pb db cb w' w'') := fun w' h => pop_s w' h
            have ra := hR.out.1
            have htb : tb.length = m' := by simpa using hlb
            clear hlb hm0
            go_wp2_with (first | (go_at_call 9; refine (HQ.out _).mono ?_; rintro e wx ⟨rfl, hwx⟩; have hwy := hwx.symm; clear hwx; subst hwy) | (go_at_call 19; refine (HPa.out _ ra).mono ?_; rintro e w3 ⟨rfl, r3, t3⟩; obtain ⟨rb, x3⟩ := hR.out.stepA hAp.out t3) | (go_at_call 20; refine (HPb.out _ rb).mono ?_; rintro e w4 ⟨rfl, r4, t4⟩))
            have hB4 : Hid (Both2 W w4 (1 + n0) pa da ca pb db cb (o + 1) m' tb) := ⟨(Both2.stepB r3 x3 hAp.out t4).1, r4, htb, (Both2.stepB r3 x3 hAp.out t4).2⟩
            clear ra r3 t3 rb x3 r4 t4
            go_roundw
            case measure => simp [intOf]; omega
            case rel => exact ⟨k + 1, o + 1, m', tb, by omega, by omega, by simp, by simp, by congr 1; omega, by omega, by omega, hB4⟩
        · have hlb : lb.length = m := hR.out.2.2.1
          have hqz : ¬ (q : Int) = 0 := by omega
          by_cases hmn : m < 1 + n0
          · have HPa : Hid (∀ w', Ri w' pa da ca (1 + n0) (ints o m) → Calls Try.prog 21 #[.pointer (some ⟨pa, 0, none⟩), .int .i64 ((o + m : Nat) : Int)] w' fun e w'' => e = .returned (.tuple #[.int .i64 0, .bool false]) ∧ Ri w'' pa da ca (1 + n0) (ints o (m + 1)) ∧ Turn pa da ca w' w'') := fun w' h => by
              have := push_i w' h ((o + m : Nat) : Int)
              rw [if_pos (by rw [ints_len]; exact hmn)] at this
              unfold pushed at this
              rw [if_pos (by rw [ints_len]; exact hmn), ints_snoc] at this
              exact this
            have HPb : Hid (∀ w', Rs w' pb db cb (1 + n0) lb → Calls Try.prog 22 #[.pointer (some ⟨pb, 0, none⟩), .string (S k)] w' fun e w'' => e = .returned (.tuple #[.string ⟨#[]⟩, .bool false]) ∧ Rs w'' pb db cb (1 + n0) (lb ++ [.string (S k)]) ∧ Turn pb db cb w' w'') := fun w' h => by
              have := push_s w' h (S k)
              rw [if_pos (by rw [hlb]; exact hmn)] at this
              unfold pushed at this
              rw [if_pos (by rw [hlb]; exact hmn)] at this
              exact this
            have HLa : Hid (∀ w', Ri w' pa da ca (1 + n0) (ints o (m + 1)) → Calls Try.prog 23 #[.pointer (some ⟨pa, 0, none⟩)] w' fun e w'' => e = .returned (.int .i64 ((m : Int) + 1)) ∧ Quiet w' w'') := fun w' h => by
              have := len_l_i w' h; rw [ints_len] at this; exact this
            have HLb : Hid (∀ w', Rs w' pb db cb (1 + n0) (lb ++ [.string (S k)]) → Calls Try.prog 24 #[.pointer (some ⟨pb, 0, none⟩)] w' fun e w'' => e = .returned (.int .i64 ((m : Int) + 1)) ∧ Quiet w' w'') := fun w' h => by
              have := len_l_s w' h
              rw [show (lb ++ [Value.string (S k)]).length = m + 1 by simp [hlb]] at this; exact this
            have ra := hR.out.1
            have hlb' : (lb ++ [Value.string (S k)]).length = m + 1 := by simp [hlb]
            have HLB : Hid ((lb ++ [Value.string (S k)]).length = m + 1) := hlb'
            clear hlb hlb'
            go_wp2_with (first | (go_at_call 9; refine (HQ.out _).mono ?_; rintro e wx ⟨rfl, hwx⟩; have hwy := hwx.symm; clear hwx; subst hwy) | (go_at_call 21; refine (HPa.out _ ra).mono ?_; rintro e w3 ⟨rfl, r3, t3⟩; obtain ⟨rb, x3⟩ := hR.out.stepA hAp.out t3; have z31 := x3.keepc hzW.out; obtain ⟨_, _, y32, _⟩ := (hcW.out.ext x3).row hlt) | (go_at_call 22; refine (HPb.out _ rb).mono ?_; rintro e w4 ⟨rfl, r4, t4⟩; obtain ⟨ra4, x4⟩ := Both2.stepB r3 x3 hAp.out t4) | (go_at_call 23; refine (HLa.out _ ra4).mono ?_; rintro e w5 ⟨rfl, q5⟩; have r5 := q5.ring r4; have ra5 := q5.ring ra4; have x5 := q5.ext x4; clear q5 r4 ra4) | (go_at_call 24; refine (HLb.out _ r5).mono ?_; rintro e w6 ⟨rfl, q6⟩; have r6 := q6.ring r5; have ra6 := q6.ring ra5; have x6 := q6.ext x5; clear q6 r5 ra5))
            have hB6 : Hid (Both2 W w6 (1 + n0) pa da ca pb db cb o (m + 1) (lb ++ [Value.string (S k)])) := ⟨ra6, r6, HLB.out, x6⟩
            clear ra r3 t3 rb x3 t4 x4 x5 r6 ra6 x6
            go_roundw
            case measure => simp [intOf]; omega
            case rel => exact ⟨k + 1, o, m + 1, _, by omega, by omega, by simp, rfl, by congr 1, by omega, by omega, hB6⟩
          · have hmn' : m = 1 + n0 := by omega
            obtain ⟨hb, tb, rfl⟩ : ∃ hb tb, lb = hb :: tb := by cases lb with | nil => simp at hlb; omega | cons x y => exact ⟨x, y, rfl⟩
            have htb : (tb ++ [Value.string (S k)]).length = m := by simpa using hlb
            have HLB : Hid ((tb ++ [Value.string (S k)]).length = m) := htb
            have HPa : Hid (∀ w', Ri w' pa da ca (1 + n0) (ints o m) → Calls Try.prog 21 #[.pointer (some ⟨pa, 0, none⟩), .int .i64 ((o + m : Nat) : Int)] w' fun e w'' => e = .returned (.tuple #[.int .i64 o, .bool true]) ∧ Ri w'' pa da ca (1 + n0) (ints (o + 1) m) ∧ Turn pa da ca w' w'') := fun w' h => by
              have := push_i w' h ((o + m : Nat) : Int)
              rw [if_neg (by rw [ints_len]; exact hmn)] at this
              unfold pushed at this
              rw [if_neg (by rw [ints_len]; exact hmn)] at this
              obtain ⟨m', rfl⟩ : ∃ m', m = m' + 1 := ⟨m - 1, by omega⟩
              rw [ints_succ, List.tail_cons, List.headD_cons, show o + (m' + 1) = (o + 1) + m' by omega, ints_snoc] at this
              rw [show o + (m' + 1) = (o + 1) + m' by omega]
              exact this
            have HPb : Hid (∀ w', Rs w' pb db cb (1 + n0) (hb :: tb) → Calls Try.prog 22 #[.pointer (some ⟨pb, 0, none⟩), .string (S k)] w' fun e w'' => e = .returned (.tuple #[hb, .bool true]) ∧ Rs w'' pb db cb (1 + n0) (tb ++ [.string (S k)]) ∧ Turn pb db cb w' w'') := fun w' h => by
              have := push_s w' h (S k)
              rw [if_neg (by rw [hlb]; exact hmn)] at this
              unfold pushed at this
              rw [if_neg (by rw [hlb]; exact hmn)] at this
              exact this
            have HLa : Hid (∀ w', Ri w' pa da ca (1 + n0) (ints (o + 1) m) → Calls Try.prog 23 #[.pointer (some ⟨pa, 0, none⟩)] w' fun e w'' => e = .returned (.int .i64 ((o : Int) + m + 1 - (o + 1))) ∧ Quiet w' w'') := fun w' h => by
              have := len_l_i w' h; rw [ints_len] at this; rw [show (o : Int) + m + 1 - (o + 1) = m by omega]; exact this
            have HLb : Hid (∀ w', Rs w' pb db cb (1 + n0) (tb ++ [.string (S k)]) → Calls Try.prog 24 #[.pointer (some ⟨pb, 0, none⟩)] w' fun e w'' => e = .returned (.int .i64 ((o : Int) + m + 1 - (o + 1))) ∧ Quiet w' w'') := fun w' h => by
              have := len_l_s w' h
              rw [htb] at this; rw [show (o : Int) + m + 1 - (o + 1) = m by omega]; exact this
            have ra := hR.out.1
            clear hlb htb hmn'
            go_wp2_with (first | (go_at_call 9; refine (HQ.out _).mono ?_; rintro e wx ⟨rfl, hwx⟩; have hwy := hwx.symm; clear hwx; subst hwy) | (go_at_call 21; refine (HPa.out _ ra).mono ?_; rintro e w3 ⟨rfl, r3, t3⟩; obtain ⟨rb, x3⟩ := hR.out.stepA hAp.out t3; have z31 := x3.keepc hzW.out; obtain ⟨_, _, y32, _⟩ := (hcW.out.ext x3).row hlt) | (go_at_call 22; refine (HPb.out _ rb).mono ?_; rintro e w4 ⟨rfl, r4, t4⟩; obtain ⟨ra4, x4⟩ := Both2.stepB r3 x3 hAp.out t4) | (go_at_call 23; refine (HLa.out _ ra4).mono ?_; rintro e w5 ⟨rfl, q5⟩; have r5 := q5.ring r4; have ra5 := q5.ring ra4; have x5 := q5.ext x4; clear q5 r4 ra4) | (go_at_call 24; refine (HLb.out _ r5).mono ?_; rintro e w6 ⟨rfl, q6⟩; have r6 := q6.ring r5; have ra6 := q6.ring ra5; have x6 := q6.ext x5; clear q6 r5 ra5))
            have hB6 : Hid (Both2 W w6 (1 + n0) pa da ca pb db cb (o + 1) m (tb ++ [Value.string (S k)])) := ⟨ra6, r6, HLB.out, x6⟩
            clear ra r3 t3 rb x3 t4 x4 x5 r6 ra6 x6
            go_roundw
            case measure => simp [intOf]; omega
            case rel => exact ⟨k + 1, o + 1, m, _, by omega, by omega, by simp, by simp, by congr 1; omega, by omega, by omega, hB6⟩
      · go_wp2_with (go_at_call 8; refine (HWk.out _).mono ?_; rintro e wk ⟨rfl, xk⟩)
        go_ret
        exact ⟨rfl, (HX0.out.trans hR.out.2.2.2).trans xk⟩
    · go_wp2_with (go_at_call 8; refine (HWk.out _).mono ?_; rintro e wk ⟨rfl, xk⟩)
      go_ret
      exact ⟨rfl, (HX0.out.trans hR.out.2.2.2).trans xk⟩
end Go.Proofs.Ytblpdnpfhjnbgaa
