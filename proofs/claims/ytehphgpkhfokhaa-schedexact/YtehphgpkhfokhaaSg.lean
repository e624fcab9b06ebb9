/- sched: heed. -/
import Derived.Test.YtehphgpkhfokhaaSf
namespace Go.Proofs.Ytehphgpkhfokhaa
open Go.RowKit Go.Conc
/-- the slice u tells the numbers of l, none of which lies in O -/
def RdF (w : World) (O : Nat → Prop) (u : Value) (l : List Int) : Prop :=
  ∃ a cap, u = .slice a l.length cap ∧ ∀ j, j < l.length → ∃ b off, a = some ⟨b, off, none⟩ ∧ ¬ O b ∧ w.cell? ⟨b, off + j, none⟩ = some (.int .i64 (gi l j))
theorem rdf_none (w : World) (O : Nat → Prop) : RdF w O (.slice none 0 0) [] := ⟨none, 0, rfl, fun j hj => by simp at hj⟩
def heeded (s : St) (task : Nat) (l : List Int) (again : Int) : St :=
  if 0 < again ∧ again ≤ 1099511627776 - s.now then ⟨wkAll s.A l, ins (task, s.now + again, s.T + 1) (s.S.filter (fun t => t.1 ≠ (task : Int))), s.T + 1, s.now⟩ else { s with A := wkAll s.A l }
theorem heeded_len (s : St) (task : Nat) (l : List Int) (again : Int) : (heeded s task l again).A.length = s.A.length := by
  unfold heeded; split <;> simp [wkAll_len]
theorem heeded_T (s : St) (task : Nat) (l : List Int) (again : Int) : (heeded s task l again).T ≤ s.T + 1 := by
  unfold heeded; split <;> simp <;> omega
theorem heeded_now (s : St) (task : Nat) (l : List Int) (again : Int) : (heeded s task l again).now = s.now := by
  unfold heeded; split <;> simp
theorem take_num {l : List Int} {j : Nat} (hj : j < l.length) : l.take (j + 1) = l.take j ++ [gi l j] := by
  rw [List.take_add_one, gi_at hj, Option.toList_some]
section
variable {t b : Nat} {c : Nat → Nat} {v : Value} {s : St}
set_option maxRecDepth 20000 in
set_option maxHeartbeats 2000000 in
theorem heed_any (task : Nat) (u : Value) (l : List Int) (again : Int) (w : World) (h : Tab w t b c v s) (hu : RdF w (OwnT t b c s.A.length v) u l) (hi : task < s.A.length) (hT : s.T < 100000) (hl : l.length ≤ 100000) (ha : -9223372036854775808 ≤ again ∧ again ≤ 9223372036854775807) :
    Calls Try.prog 39 #[.pointer (some ⟨t, 0, none⟩), .int .i64 task, u, .int .i64 again] w fun e w' => (∃ x, e = .returned x) ∧ ∃ v', Does t b c v v' s (heeded s task l again) w w' := by
  obtain ⟨a, cap, rfl, hu⟩ := hu
  have HU : Hid (∀ j, j < l.length → ∃ b' off, a = some ⟨b', off, none⟩ ∧ ¬ OwnT t b c s.A.length v b' ∧ w.cell? ⟨b', off + j, none⟩ = some (.int .i64 (gi l j))) := hu
  have D0 : Hid (Does t b c v v s { s with A := wkAll s.A (l.take 0) } w w) := Does.refl h
  have HL : Hid (l.length ≤ 100000) := hl
  have HT : Hid (s.T < 100000) := hT
  have hn16 := h.n.2
  have HNw : Hid (0 ≤ s.now ∧ s.now ≤ 1099511627776) := h.nw
  clear hu h hl hT
  go_enter Try.func39, Try.ntmps39
  go_wp2_with fail
  go_loopw [12] (fun s12 wr => ∃ k : Nat, k ≤ l.length ∧ s12 = .int .i64 k ∧ Hid (Does t b c v v s { s with A := wkAll s.A (l.take k) } w wr)) (fun s12 _ => l.length - (intOf s12).toNat)
  case atStart => exact ⟨0, Nat.zero_le _, rfl, D0⟩
  case round =>
    obtain ⟨k, hk, rfl, hR⟩ := hrel
    by_cases hlt : k < l.length
    · have hlt' : (k : Int) < (l.length : Int) := by omega
      obtain ⟨g, off, rfl, hg, y0⟩ := HU.out k hlt
      have y0 := hR.out.turn.keepc hg y0
      have HWk : Hid (Calls Try.prog 13 #[.pointer (some ⟨t, 0, none⟩), .int .i64 (gi l k)] wr fun e w' => (∃ u, e = .returned u) ∧ Hid (Does t b c v v s { s with A := wkAll s.A (l.take (k + 1)) } w w')) := by
        refine (wake_any (gi l k) _ hR.out.tab).mono ?_
        rintro e w' ⟨rfl, d2⟩
        refine ⟨⟨_, rfl⟩, ?_⟩
        have := hR.out.trans d2
        rw [take_num hlt, wkAll_app]
        exact this
      have HWk := HWk.out
      have hL := HL.out
      have hkx : (k : Int) ≤ 9223372036854775806 := by omega
      clear hR hL
      generalize gi l k = t1 at *
      go_wp2_with (go_at_call 13; refine HWk.mono ?_; rintro e w2 ⟨⟨u2, rfl⟩, R2⟩)
      go_roundw
      case measure => simp [intOf]; omega
      case rel => exact ⟨k + 1, by omega, by simp, R2⟩
    · have hkn : ¬ (k : Int) < (l.length : Int) := by omega
      have HR : Hid (Does t b c v v s { s with A := wkAll s.A l } w wr) := by
        have := hR.out
        rw [List.take_of_length_le (by omega)] at this
        exact this
      clear hR D0
      by_cases h1 : again > 0
      · have HLe := left_any wr HR.out.tab
        by_cases h2 : again ≤ 1099511627776 - s.now
        · have HG : Hid (heeded s task l again = ⟨wkAll s.A l, ins (task, s.now + again, s.T + 1) (s.S.filter (fun t => t.1 ≠ (task : Int))), s.T + 1, s.now⟩) := if_pos ⟨h1, h2⟩
          have c3 := HR.out.tab.c3
          have hnw := HNw.out
          have hwr : IntKind.i64.wrap (s.now + again) = s.now + again := by rw [IntKind.wrap_i64]; omega
          have HSe : Hid (∀ m, Calls Try.prog 46 #[.pointer (some ⟨t, 1, none⟩), .int .i64 task, .int .i64 (s.now + again)] (wr.drewN m) fun e w' => (∃ x, e = .returned x) ∧ w'.cell? ⟨t, 3, none⟩ = some (.int .i64 s.now) ∧ ∃ v', Hid (Does t b c v v' s (heeded s task l again) w w')) := fun m => by
            have dm := HR.out.ext (drewN_ext m)
            refine (set_any (task : Int) (s.now + again) _ dm.tab.wh HT.out ⟨⟨by omega, by omega⟩, by omega, by omega⟩).mono ?_
            rintro e w' ⟨rfl, v', q1, q2⟩
            have dd := dm.trans (dm.tab.goes q2 q1)
            refine ⟨⟨_, rfl⟩, dd.tab.c3, v', ?_⟩
            show Does _ _ _ _ _ _ _ _ _
            rw [HG.out]
            exact dd
          clear HR HG HU HNw
          simp only at HLe c3
          generalize 1099511627776 - s.now = L at *
          have h2' : ¬ L < again := by omega
          generalize s.now = nw at *
          clear hnw
          go_upto_region 6 with (go_at_call 42; refine HLe.mono ?_; rintro e wx ⟨rfl, hwx⟩; have hwy := hwx.symm; clear hwx; subst hwy)
          go_region_held (fun w' => w'.cell? ⟨t, 3, none⟩ = some (.int .i64 nw)) (first | (go_keep; done) | skip) (first | (go_at_call 46; refine (HSe.out 1).mono ?_; rintro e w1 ⟨⟨x1, rfl⟩, c3, v1, R1⟩))
          all_goals
            go_end0
            exact ⟨⟨_, rfl⟩, v1, R1.out⟩
        · have HG : Hid (Does t b c v v s (heeded s task l again) w wr) := by
            have e : heeded s task l again = { s with A := wkAll s.A l } := if_neg (fun z => h2 z.2)
            show Does _ _ _ _ _ _ _ _ _
            rw [e]; exact HR.out
          clear HR
          simp only at HLe
          generalize 1099511627776 - s.now = L at *
          have h2' : L < again := by omega
          go_wp2_with (go_at_call 42; refine HLe.mono ?_; rintro e wx ⟨rfl, hwx⟩; have hwy := hwx.symm; clear hwx; subst hwy)
          go_end0
          exact ⟨⟨_, rfl⟩, v, HG.out⟩
      · have HG : Hid (Does t b c v v s (heeded s task l again) w wr) := by
          have e : heeded s task l again = { s with A := wkAll s.A l } := if_neg (fun z => h1 z.1)
          show Does _ _ _ _ _ _ _ _ _
          rw [e]; exact HR.out
        clear HR
        go_wp2_with fail
        go_end0
        exact ⟨⟨_, rfl⟩, v, HG.out⟩
end
end Go.Proofs.Ytehphgpkhfokhaa
