/- Heavy, wakes; a script. -/
import Derived.Test.YtfgljkeohoffiaaGt
namespace Go.Proofs.Ytfgljkeohoffiaa
open Go.RowKit Go.Conc
/-- how much there is of the first k models, and of faults -/
def hsum (n : Nat) (M : List Md) : Nat → Int
  | 0 => n
  | k + 1 => wrap64 (hsum n M k + (gm M k).list.length)
def heavyB (n : Nat) (M : List Md) : Bool := decide (600 < hsum n M (min M.length 40)) || decide (40 < M.length)
set_option maxRecDepth 20000 in
set_option maxHeartbeats 4000000 in
theorem heavy_any (w : World) (a : Option Addr) (M : List Md) (c : Nat) (a2 : Option Addr) (n c2 : Nat) (hM : MRs w a M) (hl : M.length ≤ maxLen) :
    Calls Try.prog 4 #[.slice a M.length c, .slice a2 n c2] w fun e w' => e = .returned (.bool (heavyB n M)) ∧ w' = w := by
  unfold maxLen at hl
  have HM : Hid (MRs w a M) := hM
  clear hM
  go_enter Try.func4, Try.ntmps4
  go_wp2_with fail
  go_loopw [5, 6] (fun s i wr => ∃ k : Nat, k ≤ M.length ∧ k ≤ 40 ∧ i = .int .i64 k ∧ s = .int .i64 (hsum n M k) ∧ wr = w) (fun _ i _ => 40 - (intOf i).toNat)
  case atStart => exact ⟨0, Nat.zero_le _, Nat.zero_le _, rfl, rfl, rfl⟩
  case round =>
    obtain ⟨k, hk, hk4, rfl, rfl, hw⟩ := hrel
    subst hw
    by_cases hlt : k < M.length
    · have hlti : (k : Int) < (M.length : Int) := by omega
      by_cases h40 : k < 40
      · have h40i : (k : Int) < 40 := by omega
        obtain ⟨b1, o1, la, lc, rfl, ⟨k0, k1, k2⟩, hlr, hll⟩ := HM.out k hlt
        have es : Hid (hsum n M (k + 1) = wrap64 (hsum n M k + (gm M k).list.length)) := rfl
        generalize hsum n M k = s0 at *
        generalize (gm M k).list.length = ll at *
        go_wp2_with fail
        go_roundw
        case measure => simp [intOf]; omega
        case rel => exact ⟨k + 1, by omega, by omega, by simp, by rw [es.out], trivial⟩
      · have h40i : ¬ (k : Int) < 40 := by omega
        have h40b : decide ((k : Int) < 40) = false := by simpa using h40i
        have ek : Hid (heavyB n M = (decide (600 < hsum n M k) || decide (40 < M.length))) := by
          show _ = _
          unfold heavyB
          rw [show min M.length 40 = k by omega]
        generalize hsum n M k = s0 at *
        by_cases h6 : 600 < s0
        · have e : Hid (heavyB n M = true) := by show _ = _; rw [ek.out]; simp [h6]
          go_wp2_with fail
          go_ret
          rw [e.out]
          exact ⟨rfl, rfl⟩
        · have e : Hid (heavyB n M = decide (40 < M.length)) := by show _ = _; rw [ek.out]; simp [h6]
          have h6b : decide (600 < s0) = false := by simpa using h6
          by_cases h4 : 40 < M.length
          · have h4i : (40 : Int) < (M.length : Int) := by omega
            have e3 : Hid (decide (40 < M.length) = true) := by show _ = _; simpa using h4
            go_wp2_with fail
            go_ret
            rw [e.out, e3.out]
            exact ⟨rfl, rfl⟩
          · have h4i : ¬ (40 : Int) < (M.length : Int) := by omega
            have e3 : Hid (decide (40 < M.length) = false) := by show _ = _; simpa using h4
            go_wp2_with fail
            go_ret
            rw [e.out, e3.out]
            exact ⟨rfl, rfl⟩
    · have hlti : ¬ (k : Int) < (M.length : Int) := by omega
      have hltb : decide ((k : Int) < (M.length : Int)) = false := by simpa using hlti
      have ek : Hid (heavyB n M = decide (600 < hsum n M k)) := by
        show _ = _
        unfold heavyB
        rw [show min M.length 40 = k by omega, show decide (40 < M.length) = false by simp; omega, Bool.or_false]
      have h4i : ¬ (40 : Int) < (M.length : Int) := by omega
      have h4b : decide ((40 : Int) < (M.length : Int)) = false := by simpa using h4i
      generalize hsum n M k = s0 at *
      by_cases h6 : 600 < s0
      · have e : Hid (heavyB n M = true) := by show _ = _; rw [ek.out]; simp [h6]
        go_wp2_with fail
        go_ret
        rw [e.out]
        exact ⟨rfl, rfl⟩
      · have e : Hid (heavyB n M = false) := by show _ = _; rw [ek.out]; simp [h6]
        have h6b : decide (600 < s0) = false := by simpa using h6
        go_wp2_with fail
        go_ret
        rw [e.out]
        exact ⟨rfl, rfl⟩
def wkM : List Md := [⟨5, 77, []⟩]
theorem wk_ok : (okMs wkM && okFs []) = true := by decide
theorem wk_do : (doB (newB wkM []) 5 0 [] 1).1 = 1 ∧ (doB (newB wkM []) 5 0 [] 1).2.1 = [77] := ⟨rfl, rfl⟩
theorem frs_nil (w : World) (a : Option Addr) : FRs w a [] := fun i hi => by simp at hi
theorem br_nil (w : World) (a : Option Addr) : BR w a [] := fun i hi => by simp at hi
set_option maxRecDepth 20000 in
set_option maxHeartbeats 4000000 in
theorem wakes_any (w : World) : Calls Try.prog 9 #[] w fun e w' => e = .returned (.bool true) ∧ Ext w w' := by
  have x1 : Ext w (w.alloc (.cells #[.int .i64 5, .int .i64 77, .slice none 0 0] 35)) := (Ext.refl w).alloc _
  have hM : MRs (w.alloc (.cells #[.int .i64 5, .int .i64 77, .slice none 0 0] 35)) (some ⟨w.heap.size, 0, none⟩) wkM := fun i hi => by
    have h0 : i = 0 := by simp [wkM] at hi; omega
    subst h0
    refine ⟨w.heap.size, 0, none, 0, rfl, ⟨?_, ?_, ?_⟩, fun i hi => by simp [gm, wkM] at hi, by simp [gm, wkM]⟩ <;> simp [go_sem, gm, wkM]
  have HN := busnew_any _ _ wkM 1 none [] 0 hM (by simp [wkM, maxLen]) (frs_nil _ _) (by simp [maxLen])
  rw [wk_ok] at HN
  have HD : Hid (∀ w1 y, IsBus w1 y (newB wkM []) → Calls Try.prog 16 #[.pointer (some ⟨y.b, 0, none⟩), txv 5 0 none 0 0 1] w1 fun e w' => ∃ a c, e = .returned (.tuple #[ansV 1 (.slice a 1 c), .int .i64 0]) ∧ Hid (RdB w' (.slice a 1 c) [77] ∧ Tn (FB y) w1 w')) := fun w1 y h => by
    refine (do_ok w1 h 5 0 none [] 0 1 (by simp [maxLen]) (by decide) (br_nil _ _) (fun k off h0 => by simp at h0) (fun k => by show 0 ≤ ((flt (fsts [] 0) k).getD noF).idx; exact Int.le_refl _)).mono ?_
    rintro e w' ⟨v, rfl, o, d⟩
    rw [wk_do.2] at o
    rw [wk_do.1]
    obtain ⟨a, c, rfl⟩ := row_form o
    exact ⟨a, c, rfl, rdb_row o, d.2⟩
  have HNU : Hid (∀ v w', Calls Try.prog 8 #[.int .i64 v] w' fun e w'' => e = .returned (.int .i64 v) ∧ w'' = w') := num_any
  have HE : Hid (∀ w1 a c, RdB w1 (.slice a 1 c) [77] → Calls Try.prog 28 #[.slice a 1 c, .slice (some ⟨w1.heap.size, 0, none⟩) 1 1] (w1.alloc (.cells #[.int .u8 77] 5)) fun e w' => e = .returned (.bool true) ∧ Ext w1 w') := fun w1 a c h => by
    have x : Ext w1 (w1.alloc (.cells #[.int .u8 77] 5)) := (Ext.refl w1).alloc _
    refine (eq_bytes (l := [77]) _ _ _ (h.ext x) ⟨_, 1, rfl, fun j hj => ?_⟩ (by simp)).mono ?_
    · have hj0 : j = 0 := by simp at hj; omega
      subst hj0
      exact ⟨_, _, rfl, by simp [go_sem]⟩
    · rintro e w' ⟨rfl, y⟩
      exact ⟨rfl, x.trans y⟩
  clear hM
  go_enter Try.func9, Try.ntmps9
  go_upto_region 2 with (go_at_call 6; refine HN.mono ?_; rintro e w1 ⟨x2, _, hy⟩; obtain ⟨y, rfl, hb, hf⟩ := hy rfl)
  go_upto_region 4 with (go_at_call 8; refine (HNU.out _ _).mono ?_; rintro e wx ⟨rfl, hwx⟩; have hwy := hwx.symm; clear hwx; subst hwy)
  have HD1 := HD.out _ _ hb
  go_upto_region 5 with (go_at_call 16; refine HD1.mono ?_; rintro e w2 ⟨a, c, rfl, r2⟩)
  have x3 : Ext w2 (w2.alloc (.cells #[.int .i64 1, .slice a 1 c] 57)) := (Ext.refl w2).alloc _
  have k0 : (w2.alloc (.cells #[.int .i64 1, .slice a 1 c] 57)).cell? ⟨w2.heap.size, 0, none⟩ = some (.int .i64 1) := by simp [go_sem]
  have k1 : (w2.alloc (.cells #[.int .i64 1, .slice a 1 c] 57)).cell? ⟨w2.heap.size, 1, none⟩ = some (.slice a 1 c) := by simp [go_sem]
  have HE1 := HE.out _ _ _ (r2.out.1.ext x3)
  have HX : Hid (Ext w (w2.alloc (.cells #[.int .i64 1, .slice a 1 c] 57))) := (r2.out.2.below (x1.trans x2) (fun i o => by have h1 := hf i o; have h2 := x1.size; omega)).trans x3
  generalize w2.alloc (.cells #[.int .i64 1, .slice a 1 c] 57) = w3 at *
  clear HD1 HN x3 r2 hb hf x1 x2
  go_wp2_with (first | (go_at_call 8; refine (HNU.out _ _).mono ?_; rintro e wx ⟨rfl, hwx⟩; have hwy := hwx.symm; clear hwx; subst hwy) | (go_at_call 28; refine HE1.mono ?_; rintro e w4 ⟨rfl, x4⟩))
  go_ret
  exact ⟨rfl, HX.out.trans x4⟩
end Go.Proofs.Ytfgljkeohoffiaa
