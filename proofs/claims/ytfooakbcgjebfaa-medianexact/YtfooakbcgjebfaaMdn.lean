/- What the statements of layer 13 share. -/
import Derived.Test.YtfooakbcgjebfaaMdm
namespace Go.Proofs.Ytfooakbcgjebfaa
open Go.RowKit Go.Conc Go.Shelf Go.Lib
theorem med_of {l s : List Int} (hp : s.Perm l) (hs : s.Pairwise (fun a b => a ≤ b)) : med l = s[(l.length - 1) / 2]?.getD 0 := by unfold med; rw [← sort_eq hp hs]
theorem med_self {l : List Int} (hs : l.Pairwise (fun a b => a ≤ b)) : med l = l[(l.length - 1) / 2]?.getD 0 := med_of (List.Perm.refl l) hs
theorem med_one (a : Int) : med [a] = a := (med_self (l := [a]) (by simp)).trans (by simp)
theorem med_five (a : Int) : med [a, a, a, a, a] = a := (med_self (l := [a, a, a, a, a]) (by simp)).trans (by simp)
theorem med_mid (a b : Int) : med [a, b, a] = a := by
  by_cases h : a ≤ b
  · exact (med_of (l := [a, b, a]) (s := [a, a, b]) (.cons a (.swap b a [])) (by simp [h])).trans (by simp)
  · have h' : b ≤ a := by omega
    exact (med_of (l := [a, b, a]) (s := [b, a, a]) (.swap a b [a]) (by simp [h'])).trans (by simp)
theorem med_first (a b : Int) : med [b, a, a] = a := by
  have hp : [b, a, a].Perm [a, b, a] := .swap a b [a]
  rw [med_perm hp, med_mid]
theorem num13_any (v : Int) (w : World) :
    Calls Try.prog 10 #[.int .i64 v] w fun e w' => e = .returned (.int .i64 v) ∧ w' = w := by
  go_enter Try.func10, Try.ntmps10
  go_wp2
  go_ret
  exact ⟨rfl, rfl⟩
/-- a row of vectors that is built -/
theorem vl_row {w : World} {b off : Nat} {ls : List Vc} (h : ∀ j u, (vcs ls)[j]? = some u → w.cell? ⟨b, off + j, none⟩ = some u) : VL w (some ⟨b, off, none⟩) ls := fun i x hi => by
  refine ⟨b, off, rfl, ?_, ?_, ?_⟩
  · have := h (i * 3 + 0) _ (vcs_at hi (by omega))
    rwa [Nat.add_zero] at this
  · have := h (i * 3 + 1) _ (vcs_at hi (by omega))
    rwa [← Nat.add_assoc] at this
  · have := h (i * 3 + 2) _ (vcs_at hi (by omega))
    rwa [← Nat.add_assoc] at this
theorem vl_built (w : World) (ls : List Vc) (T : TypeId) : VL (w.alloc (.cells (vcs ls).toArray T)) (some ⟨w.heap.size, 0, none⟩) ls :=
  vl_row fun j u hu => by
    rw [Nat.zero_add, World.cell?_alloc_new]
    simpa using hu
theorem VL.nil (w : World) (a : Option Addr) : VL w a [] := fun i x hi => by simp at hi
set_option maxRecDepth 20000 in
set_option maxHeartbeats 2000000 in
theorem wakes13_any (w : World) : Calls Try.prog 13 #[] w fun e w' => e = .returned (.bool true) ∧ Ext w w' := by
  have HN : Hid (∀ v w, Calls Try.prog 10 #[.int .i64 v] w fun e w' => e = .returned (.int .i64 v) ∧ w' = w) := num13_any
  have HT := take_good [⟨5, 0, 0⟩, ⟨1, 0, 0⟩] (some ⟨w.heap.size, 0, none⟩) 2 3 ⟨9, 0, 0⟩ _ (vl_built w [⟨5, 0, 0⟩, ⟨1, 0, 0⟩] 25) (by decide) (by decide)
  have em : (medv (pushL 3 [⟨5, 0, 0⟩, ⟨1, 0, 0⟩] ⟨9, 0, 0⟩)).x = 5 := med_of (s := [1, 5, 9]) (.swap 5 1 [9]) (by simp)
  have HT2 : Calls Try.prog 9 #[.slice (some ⟨w.heap.size, 0, none⟩) 2 2, .int .i64 3, .agg #[.int .i64 9, .int .i64 0, .int .i64 0]] (w.alloc (.cells #[.int .i64 5, .int .i64 0, .int .i64 0, .int .i64 1, .int .i64 0, .int .i64 0] 25)) fun e w' => ∃ g cap k y z, e = .returned (.tuple #[.slice (some ⟨g, 0, none⟩) k cap, .agg #[.int .i64 5, .int .i64 y, .int .i64 z], .int .i64 0]) ∧ Ext w w' := HT.mono fun e w' ⟨g, cap, h1, _, h3⟩ => ⟨g, cap, _, (medv (pushL 3 [⟨5, 0, 0⟩, ⟨1, 0, 0⟩] ⟨9, 0, 0⟩)).y, (medv (pushL 3 [⟨5, 0, 0⟩, ⟨1, 0, 0⟩] ⟨9, 0, 0⟩)).z, by rw [← em]; exact h1, Ext.trans ((Ext.refl w).alloc _) h3⟩
  clear HT em
  go_enter Try.func13, Try.ntmps13
  go_wp2_with (first | (go_at_call 9; refine HT2.mono ?_; rintro e w1 ⟨g, cap, k, y, z, rfl, x1⟩) | (go_at_call 10; refine (HN.out _ _).mono ?_; rintro e wx ⟨rfl, hwx⟩; have hwy := hwx.symm; clear hwx; subst hwy))
  go_ret
  exact ⟨rfl, x1.alloc _⟩
set_option maxRecDepth 20000 in
set_option maxHeartbeats 4000000 in
theorem eqvecs_same (xs : List Vc) (a b : Option Addr) (c d : Nat) (hl : xs.length ≤ 1000) (w : World) (ha : VL w a xs) (hb : VL w b xs) :
    Calls Try.prog 11 #[.slice a xs.length c, .slice b xs.length d] w fun e w' => e = .returned (.bool true) ∧ Ext w w' := by
  have HA : Hid (VL w a xs) := ha
  have HB : Hid (VL w b xs) := hb
  clear ha hb
  have mixed : Try.prog.follows .mixedOrders = true := by kernel_rfl
  go_enter Try.func11, Try.ntmps11
  go_wp2_with fail
  go_loopw [5] (fun i wr => ∃ k : Nat, k ≤ xs.length ∧ i = .int .i64 k ∧ Hid (Quiet w wr)) (fun i _ => xs.length - (intOf i).toNat)
  case atStart => exact ⟨0, Nat.zero_le _, rfl, 0, rfl⟩
  case round =>
    obtain ⟨k, hk, rfl, hR⟩ := hrel
    by_cases hlt : k < xs.length
    · obtain ⟨v, hv⟩ : ∃ v, xs[k]? = some v := ⟨_, List.getElem?_eq_getElem hlt⟩
      obtain ⟨b1, o1, rfl, c0, c1, c2⟩ := (HA.out.ext hR.out.ext) k v hv
      obtain ⟨b2, o2, rfl, d0, d1, d2⟩ := (HB.out.ext hR.out.ext) k v hv
      have hlt2 : (k : Int) < (xs.length : Int) := by omega
      go_upto_region 6 with fail
      go_quiet (fail)
      have hQ : Hid (Quiet w (wr.drewN nq)) := by obtain ⟨m, rfl⟩ := hR.out; exact ⟨m + nq, by rw [World.drewN_drewN]⟩
      clear hR c0 c1 c2 d0 d1 d2 hv
      generalize wr.drewN nq = w2 at *
      go_wp2_with fail
      go_roundw
      case measure => simp [intOf]; omega
      case rel => exact ⟨k + 1, by omega, by simp, hQ⟩
    · have hke : k = xs.length := by omega
      subst hke
      go_wp2_with fail
      go_ret
      exact ⟨rfl, hR.out.ext⟩
/-- an ask -/
structure Ask where
  l : List Vc
  n : Int
  v : Vc
/-- asks that came in -/
def AL (w : World) (a : Option Addr) (L : List Ask) : Prop := ∀ i x, L[i]? = some x → ∃ b off la lc, a = some ⟨b, off, none⟩ ∧
  (w.cell? ⟨b, off + i * 5, none⟩ = some (.slice la x.l.length lc) ∧ w.cell? ⟨b, off + i * 5 + 1, none⟩ = some (.int .i64 x.n) ∧ C3 w b (off + i * 5 + 2) x.v) ∧ VL w la x.l ∧ x.l.length ≤ lc ∧ x.l.length ≤ maxLen ∧ (-9223372036854775808 ≤ x.n ∧ x.n ≤ 9223372036854775807)
theorem AL.ext {w w' : World} {a : Option Addr} {L : List Ask} (h : AL w a L) (x : Ext w w') : AL w' a L := fun i v hi => by
  obtain ⟨b, off, la, lc, e, ⟨h1, h2, h3⟩, h4, h5⟩ := h i v hi
  exact ⟨b, off, la, lc, e, ⟨x.keepc h1, x.keepc h2, h3.ext x⟩, h4.ext x, h5⟩
end Go.Proofs.Ytfooakbcgjebfaa
