/- wheel: Set, Cancel. -/
import Derived.Test.YtehphgpkhfokhaaJk
namespace Go.Proofs.Ytehphgpkhfokhaa
open Go.RowKit
theorem HS.count {w : World} {p : Nat} {v : Value} {xs : List Tm} {T : Int} (h : HS w p v xs T) (T' : Int) : HS (w.setCell ⟨p, 2, none⟩ (.int .i64 T')) p v xs T' := by
  obtain ⟨⟨a, b⟩, ⟨c, d⟩, e, f⟩ := h
  refine ⟨⟨by simp [go_sem, a], by simp [go_sem, b]⟩, ⟨by simp [go_sem, c], by simp [go_sem, d]⟩, ⟨e.1, ?_⟩, f⟩
  rcases e.2 with e1 | ⟨g, cap, cur, hv, hb, hg, hr⟩
  · exact .inl e1
  · refine .inr ⟨g, cap, cur, hv, hb, ?_, hr⟩
    have hne : g ≠ p := fun e => f (by rw [hv, e]; rfl)
    rw [show (w.setCell ⟨p, 2, none⟩ (.int .i64 T')).heap[g]? = w.heap[g]? from heap_setCell_other w ⟨p, 2, none⟩ g _ hne]; exact hg
/-- a timer's number and its time -/
def okT (id at_ : Int) : Prop := (0 ≤ id ∧ id < 64) ∧ 0 ≤ at_ ∧ at_ ≤ 1099511627776
set_option maxHeartbeats 4000000 in
theorem set_bad {p : Nat} (id at_ : Int) (w : World) (hb : ¬ okT id at_) :
    Calls Try.prog 46 #[.pointer (some ⟨p, 1, none⟩), .int .i64 id, .int .i64 at_] w fun e w' => e = .returned (.int .i64 1) ∧ w' = w := by
  have HI := isTimer_any id w
  unfold okT at hb
  by_cases h1 : 0 ≤ id ∧ id < 64
  · rw [decide_eq_true h1] at HI
    by_cases h2 : at_ < 0
    · clear hb
      go_enter Try.func46, Try.ntmps46
      go_wp2_with (go_at_call 51; refine HI.mono ?_; rintro e wx ⟨rfl, hwx⟩; have hwy := hwx.symm; clear hwx; subst hwy)
      go_ret
      exact ⟨rfl, rfl⟩
    · have h3 : at_ > 1099511627776 := by omega
      clear hb
      go_enter Try.func46, Try.ntmps46
      go_wp2_with (go_at_call 51; refine HI.mono ?_; rintro e wx ⟨rfl, hwx⟩; have hwy := hwx.symm; clear hwx; subst hwy)
      go_ret
      exact ⟨rfl, rfl⟩
  · rw [decide_eq_false h1] at HI
    clear hb h1
    go_enter Try.func46, Try.ntmps46
    go_wp2_with (go_at_call 51; refine HI.mono ?_; rintro e wx ⟨rfl, hwx⟩; have hwy := hwx.symm; clear hwx; subst hwy)
    go_ret
    exact ⟨rfl, rfl⟩
set_option maxRecDepth 20000 in
set_option maxHeartbeats 4000000 in
theorem set_any {p : Nat} {v : Value} {S : List Tm} {T : Int} (id at_ : Int) (w : World) (h : Wh w p v S T) (hT : T < 100000) (hok : okT id at_) :
    Calls Try.prog 46 #[.pointer (some ⟨p, 1, none⟩), .int .i64 id, .int .i64 at_] w fun e w' => e = .returned (.int .i64 0) ∧ ∃ v', Wh w' p v' (ins (id, at_, T + 1) (S.filter (fun t => t.1 ≠ id))) (T + 1) ∧ Goes p v v' w w' := by
  have HI := isTimer_any id w
  obtain ⟨h1, h2, h3⟩ := hok
  rw [decide_eq_true h1] at HI
  have HU := unset_any id w h (by omega)
  clear h
  go_enter Try.func46, Try.ntmps46
  go_upto_region 4 with (first | (go_at_call 51; refine HI.mono ?_; rintro e wx ⟨rfl, hwx⟩; have hwy := hwx.symm; clear hwx; subst hwy) | (go_at_call 52; refine HU.mono ?_; rintro e w1 ⟨rfl, v1, ⟨ys, a1, a2⟩, g1⟩))
  have hlen := a2.small (by omega)
  have hT0 : 0 ≤ T := a2.2.2.2.2.1.1
  have a3 := a1.count (T + 1)
  have HP := push_any (id, at_, T + 1) _ a3 (by omega) a2.1
  unfold tv at HP
  simp only at HP
  have c1 := a1.2.1.1
  have f1 := a1.2.1.2
  have HT : Hid (Turn (own p v1) w1 (w1.setCell ⟨p, 2, none⟩ (.int .i64 (T + 1)))) := (Turn.refl _ w1).set (.inl ⟨rfl, .inr rfl⟩) _
  have c2 := a3.2.1.1
  clear HU HI
  go_upto_region 5 with fail
  have HT2 : Hid (Goes p v v1 w (w1.setCell ⟨p, 2, none⟩ (.int .i64 (T + 1)))) := g1.trans ⟨HT.out, fun _ hk => .inl hk⟩
  have HA2 : Hid (Hw ys (S.filter (fun t => t.1 ≠ id)) T) := a2
  have HP2 : Hid (∀ m, Calls Try.prog 53 #[.pointer (some ⟨p, 1, none⟩), .agg #[.int .i64 id, .int .i64 at_, .int .i64 (T + 1)]] ((w1.setCell ⟨p, 2, none⟩ (.int .i64 (T + 1))).drewN m) fun e w' => (∃ u, e = .returned u) ∧ ∃ zs g cap, zs.Perm (ys ++ [(id, at_, T + 1)]) ∧ Heap (gt zs) zs.length ∧ HS w' p (.slice (some ⟨g, 0, none⟩) zs.length cap) zs (T + 1) ∧ Goes p v (.slice (some ⟨g, 0, none⟩) zs.length cap) w w') := fun m => (push_any (id, at_, T + 1) _ (a3.drewN m) (by omega) a2.1).mono fun _ _ ⟨he, zs, g, cap, b1, b2, b3, b4, b5⟩ => ⟨he, zs, g, cap, b1, b2, b3, (HT2.out.trans (Goes.of_ext (drewN_ext m))).trans ⟨b4, fun k hk => by simp only [Value.ownBlock, Option.some.injEq] at hk; subst hk; exact b5⟩⟩
  clear g1 a1 a2 a3 HP c1 f1 HT HT2
  generalize w1.setCell ⟨p, 2, none⟩ (.int .i64 (T + 1)) = W at *
  go_region_held (fun w' => w'.cell? ⟨p, 2, none⟩ = some (.int .i64 (T + 1))) (first | (go_keep; done) | skip) (first | (go_at_call 53; refine (HP2.out 1).mono ?_; rintro e w2 ⟨⟨u2, rfl⟩, zs, g, cap, b1, b2, b3, b4⟩; have c3 := b3.2.1.1))
  all_goals
    go_wp2_with fail
    go_ret
    refine ⟨rfl, _, ⟨zs, b3, ?_⟩, b4⟩
    exact HA2.out.ins (fun t ht => by simpa using (List.mem_filter.1 ht).2) h1 ⟨h2, h3⟩ b2 b1
end Go.Proofs.Ytehphgpkhfokhaa
