/- The reference's table: Ran, Tick, NewTable. -/
import Derived.Test.YtehphgpkhfokhaaVb
namespace Go.Proofs.Ytehphgpkhfokhaa
open Go.RowKit Go.Conc
theorem filt_is (id : Int) (S : List Tm) : S.filter (fun t => t.1 ≠ id) = filt id S := rfl
section
variable {q g : Nat} {v : Value} {s : St}
set_option maxRecDepth 20000 in
set_option maxHeartbeats 2000000 in
theorem rran_any (task : Nat) (u : Value) (l : List Int) (again : Int) (w : World) (h : RT w q g v s) (hu : RdF w (OwnQ q g v) u l) (hS : s.S.length ≤ 1000) (hl : l.length ≤ 100000) (ha : -9223372036854775808 ≤ again ∧ again ≤ 9223372036854775807) :
    Calls Try.prog 20 #[.pointer (some ⟨q, 0, none⟩), .int .i64 task, u, .int .i64 again] w fun e w' => (∃ x, e = .returned x) ∧ ∃ v', DoesR q g v v' s (heeded s task l again) w w' := by
  obtain ⟨a, cap, rfl, hu⟩ := hu
  have HU : Hid (∀ j, j < l.length → ∃ b' off, a = some ⟨b', off, none⟩ ∧ ¬ OwnQ q g v b' ∧ w.cell? ⟨b', off + j, none⟩ = some (.int .i64 (gi l j))) := hu
  have D0 : Hid (DoesR q g v v s { s with A := wkAll s.A (l.take 0) } w w) := DoesR.refl h
  have HL : Hid (l.length ≤ 100000) := hl
  have HS : Hid (s.S.length ≤ 1000) := hS
  have HNw : Hid (0 ≤ s.now ∧ s.now ≤ 1099511627776) := h.nw
  clear hu h hl hS
  go_enter Try.func20, Try.ntmps20
  go_wp2_with fail
  go_loopw [8] (fun s8 wr => ∃ k : Nat, k ≤ l.length ∧ s8 = .int .i64 k ∧ Hid (DoesR q g v v s { s with A := wkAll s.A (l.take k) } w wr)) (fun s8 _ => l.length - (intOf s8).toNat)
  case atStart => exact ⟨0, Nat.zero_le _, rfl, D0⟩
  case round =>
    obtain ⟨k, hk, rfl, hR⟩ := hrel
    by_cases hlt : k < l.length
    · have hlt' : (k : Int) < (l.length : Int) := by omega
      obtain ⟨b1, off, rfl, hg, y0⟩ := HU.out k hlt
      have y0 := hR.out.turn.keepc hg y0
      have HWk : Hid (Calls Try.prog 12 #[.pointer (some ⟨q, 0, none⟩), .int .i64 (gi l k)] wr fun e w' => (∃ u, e = .returned u) ∧ Hid (DoesR q g v v s { s with A := wkAll s.A (l.take (k + 1)) } w w')) := by
        refine (rwake_any (gi l k) _ hR.out.tab).mono ?_
        rintro e w' ⟨rfl, d2⟩
        refine ⟨⟨_, rfl⟩, ?_⟩
        have := hR.out.trans d2
        rw [take_num hlt, wkAll_app]
        exact this
      have HWk := HWk.out
      have hL := HL.out
      have hkx : (k : Int) ≤ 9223372036854775806 := by omega
      clear hR hL
      generalize gi l k = t1 at *
      go_wp2_with (go_at_call 12; refine HWk.mono ?_; rintro e w2 ⟨⟨u2, rfl⟩, R2⟩)
      go_roundw
      case measure => simp [intOf]; omega
      case rel => exact ⟨k + 1, by omega, by simp, R2⟩
    · have hkn : ¬ (k : Int) < (l.length : Int) := by omega
      have HR : Hid (DoesR q g v v s { s with A := wkAll s.A l } w wr) := by
        have := hR.out
        rw [List.take_of_length_le (by omega)] at this
        exact this
      clear hR D0
      have c1 := HR.out.tab.c1.1
      have hnw := HNw.out
      have hwL : IntKind.i64.wrap (1099511627776 - s.now) = 1099511627776 - s.now := by rw [IntKind.wrap_i64]; omega
      by_cases h1 : again > 0
      · by_cases h2 : again ≤ 1099511627776 - s.now
        · have HG : Hid (heeded s task l again = ⟨wkAll s.A l, ins (task, s.now + again, s.T + 1) (s.S.filter (fun t => t.1 ≠ (task : Int))), s.T + 1, s.now⟩) := if_pos ⟨h1, h2⟩
          have hwr : IntKind.i64.wrap (s.now + again) = s.now + again := by rw [IntKind.wrap_i64]; omega
          have HSe : Hid (∀ m, Calls Try.prog 40 #[.pointer (some ⟨q, 2, none⟩), .int .i64 task, .int .i64 (s.now + again)] (wr.drewN m) fun e w' => (∃ x, e = .returned x) ∧ w'.cell? ⟨q, 1, none⟩ = some (.int .i64 s.now) ∧ ∃ v', Hid (DoesR q g v v' s (heeded s task l again) w w')) := fun m => by
            have dm := HR.out.ext (drewN_ext m)
            refine (rset_any (task : Int) (s.now + again) (s.T + 1) _ dm.tab.rw_ HS.out).mono ?_
            rintro e w' ⟨he, v', q1, q2, q3⟩
            have dd := dm.trans (dm.tab.goes (T := s.T + 1) q2 q1 q3)
            refine ⟨he, dd.tab.c1.1, v', ?_⟩
            show DoesR _ _ _ _ _ _ _ _
            rw [HG.out]
            exact dd
          clear HR HG HU HNw
          simp only at c1
          generalize s.now = nw at *
          go_upto_region 5 with fail
          go_region_held (fun w' => w'.cell? ⟨q, 1, none⟩ = some (.int .i64 nw)) (first | (go_keep; done) | skip) (first | (go_at_call 40; refine (HSe.out 1).mono ?_; rintro e w1 ⟨⟨x1, rfl⟩, c1, v1, R1⟩))
          all_goals
            go_end0
            exact ⟨⟨_, rfl⟩, v1, R1.out⟩
        · have HG : Hid (DoesR q g v v s (heeded s task l again) w wr) := by
            have e : heeded s task l again = { s with A := wkAll s.A l } := if_neg (fun z => h2 z.2)
            show DoesR _ _ _ _ _ _ _ _
            rw [e]; exact HR.out
          clear HR HU HNw
          simp only at c1
          generalize s.now = nw at *
          go_wp2_with fail
          go_end0
          exact ⟨⟨_, rfl⟩, v, HG.out⟩
      · have HG : Hid (DoesR q g v v s (heeded s task l again) w wr) := by
          have e : heeded s task l again = { s with A := wkAll s.A l } := if_neg (fun z => h1 z.1)
          show DoesR _ _ _ _ _ _ _ _
          rw [e]; exact HR.out
        clear HR
        go_wp2_with fail
        go_end0
        exact ⟨⟨_, rfl⟩, v, HG.out⟩
end
end Go.Proofs.Ytehphgpkhfokhaa
