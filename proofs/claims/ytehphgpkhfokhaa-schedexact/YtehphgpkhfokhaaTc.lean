/- SchedTicks: two tables. -/
import Derived.Test.YtehphgpkhfokhaaM7
namespace Go.Proofs.Ytehphgpkhfokhaa
open Go.RowKit Go.Conc
/-- two tables that have nothing in common, nor with F -/
structure Tw (F : Nat → Prop) (w wr : World) (ta ba : Nat) (ca : Nat → Nat) (va : Value) (sa : St) (tb bb : Nat) (cb : Nat → Nat) (vb : Value) (sb : St) : Prop where
  a : Tk w wr ta ba ca va sa
  b : Tk w wr tb bb cb vb sb
  d : ∀ k, OwnT ta ba ca sa.A.length va k → ¬ OwnT tb bb cb sb.A.length vb k
  f : ∀ k, F k → ¬ OwnT ta ba ca sa.A.length va k ∧ ¬ OwnT tb bb cb sb.A.length vb k ∧ k < wr.heap.size
section
variable {F : Nat → Prop} {w wr w' : World} {ta ba tb bb : Nat} {ca cb : Nat → Nat} {va va' vb vb' : Value} {sa sa' sb sb' : St}
theorem OwnT.back {t b : Nat} {c : Nat → Nat} {n n' : Nat} {v v' : Value} {B : Nat} (hn : n' = n) (ho : ∀ k, v'.ownBlock = some k → v.ownBlock = some k ∨ B ≤ k) {k : Nat} (o : OwnT t b c n' v' k) : OwnT t b c n v k ∨ B ≤ k := by
  subst hn
  rcases o with o | o | o | o
  · exact .inl (.inl o)
  · exact .inl (.inr (.inl o))
  · exact .inl (.inr (.inr (.inl o)))
  · rcases ho k o with z | z
    · exact .inl (.inr (.inr (.inr z)))
    · exact .inr z
theorem Tw.ext (h : Tw F w wr ta ba ca va sa tb bb cb vb sb) (x : Ext wr w') : Tw F w w' ta ba ca va sa tb bb cb vb sb :=
  ⟨h.a.ext x, h.b.ext x, h.d, fun k o => ⟨(h.f k o).1, (h.f k o).2.1, Nat.lt_of_lt_of_le (h.f k o).2.2 x.size⟩⟩
theorem Tw.swap (h : Tw F w wr ta ba ca va sa tb bb cb vb sb) : Tw F w wr tb bb cb vb sb ta ba ca va sa :=
  ⟨h.b, h.a, fun k o o' => h.d k o' o, fun k o => ⟨(h.f k o).2.1, (h.f k o).1, (h.f k o).2.2⟩⟩
theorem Tw.left (h : Tw F w wr ta ba ca va sa tb bb cb vb sb) (d : Does ta ba ca va va' sa sa' wr w') : Tw F w w' ta ba ca va' sa' tb bb cb vb sb := by
  refine ⟨h.a.does d, ⟨h.b.tab.far d.turn (fun k o o' => h.d k o' o), (h.a.does d).x, h.b.o⟩, fun k o o' => ?_, fun k o => ?_⟩
  · rcases OwnT.back d.len d.own o with z | z
    · exact h.d k z o'
    · have := h.b.tab.lt k o'; omega
  · obtain ⟨f1, f2, f3⟩ := h.f k o
    refine ⟨fun o' => ?_, f2, Nat.lt_of_lt_of_le f3 d.turn.size⟩
    rcases OwnT.back d.len d.own o' with z | z
    · exact f1 z
    · omega
theorem Tw.right (h : Tw F w wr ta ba ca va sa tb bb cb vb sb) (d : Does tb bb cb vb vb' sb sb' wr w') : Tw F w w' ta ba ca va sa tb bb cb vb' sb' := (h.swap.left d).swap
/-- what lies in F stays -/
theorem Tw.keepl (h : Tw F w wr ta ba ca va sa tb bb cb vb sb) (d : Does ta ba ca va va' sa sa' wr w') {k j : Nat} {u : Value} (hk : F k) (hc : wr.cell? ⟨k, j, none⟩ = some u) : w'.cell? ⟨k, j, none⟩ = some u := d.turn.keepc (h.f k hk).1 hc
theorem Tw.keepr (h : Tw F w wr ta ba ca va sa tb bb cb vb sb) (d : Does tb bb cb vb vb' sb sb' wr w') {k j : Nat} {u : Value} (hk : F k) (hc : wr.cell? ⟨k, j, none⟩ = some u) : w'.cell? ⟨k, j, none⟩ = some u := d.turn.keepc (h.f k hk).2.1 hc
/-- another F, whose blocks are not owned -/
theorem Tw.frame (h : Tw F w wr ta ba ca va sa tb bb cb vb sb) {F' : Nat → Prop} (hF : ∀ k, F' k → F k ∨ (¬ OwnT ta ba ca sa.A.length va k ∧ ¬ OwnT tb bb cb sb.A.length vb k ∧ k < wr.heap.size)) : Tw F' w wr ta ba ca va sa tb bb cb vb sb :=
  ⟨h.a, h.b, h.d, fun k o => (hF k o).elim (h.f k) id⟩
end
theorem fair_cell {t b : Nat} {c : Nat → Nat} {v : Value} {n : Nat} {w : World} {X : Nat} {u : Value} (hX : w.cell? ⟨X, 0, none⟩ = some u) (hn : ¬ OwnT t b c n v X) : Fair t b c v n (fun _ => False) (fun _ w => w.cell? ⟨X, 0, none⟩ = some u) w := by
  refine ⟨fun _ k => k.elim, fun k w1 w2 P h t hs hP => t.keepc (fun o => hn (hP X o ?_)) h⟩
  exact World.block_lt_of_cell? w ⟨X, 0, none⟩ hX
theorem asks_ticks1 (n : Nat) (w : World) (X : Nat) (y : Int) : Asks (.func (.func 31) #[] #[.pointer (some ⟨X, 0, none⟩)]) (fun _ _ => ([], y)) (fun _ => False) (fun _ w => w.cell? ⟨X, 0, none⟩ = some (.int .i64 y)) n w := by
  intro k i wr hc _ _
  refine (ask_ticks1 (i : Int) (.pointer (some ⟨X, 0, none⟩)) wr (R := fun a n cp x w' => a = none ∧ n = 0 ∧ cp = 0 ∧ x = y ∧ ∃ m, w' = wr.drewN m) ?_).mono ?_
  · go_enter Try.func31, Try.ntmps31
    go_wp2_with fail
    go_quiet (fail)
    go_wp2_with fail
    exact bodyPost_ret (v := .tuple #[.slice none 0 0, .int .i64 y]) (by simp [results, Try.results31, go_sem]) rfl ⟨none, 0, 0, y, rfl, rfl, rfl, rfl, rfl, _, rfl⟩
  · rintro e w' ⟨a, n, cp, x, rfl, rfl, rfl, rfl, rfl, m, rfl⟩
    exact ⟨none, 0, rfl, rdf_none _ _, hc, Turn.of_ext (drewN_ext m)⟩
theorem asks_ticks2 (n : Nat) (w : World) (X : Nat) (y : Int) : Asks (.func (.func 32) #[] #[.pointer (some ⟨X, 0, none⟩)]) (fun _ _ => ([], y)) (fun _ => False) (fun _ w => w.cell? ⟨X, 0, none⟩ = some (.int .i64 y)) n w := by
  intro k i wr hc _ _
  refine (ask_ticks2 (i : Int) (.pointer (some ⟨X, 0, none⟩)) wr (R := fun a n cp x w' => a = none ∧ n = 0 ∧ cp = 0 ∧ x = y ∧ ∃ m, w' = wr.drewN m) ?_).mono ?_
  · go_enter Try.func32, Try.ntmps32
    go_wp2_with fail
    go_quiet (fail)
    go_wp2_with fail
    exact bodyPost_ret (v := .tuple #[.slice none 0 0, .int .i64 y]) (by simp [results, Try.results32, go_sem]) rfl ⟨none, 0, 0, y, rfl, rfl, rfl, rfl, rfl, _, rfl⟩
  · rintro e w' ⟨a, n, cp, x, rfl, rfl, rfl, rfl, rfl, m, rfl⟩
    exact ⟨none, 0, rfl, rdf_none _ _, hc, Turn.of_ext (drewN_ext m)⟩
/-- numbers of what runs and ticks do -/
theorem wk_wk (A : List Bool) (i : Int) : wk (wk A i) i = wk A i := by
  unfold wk
  by_cases h : 0 ≤ i ∧ i < A.length
  · rw [if_pos h, if_pos (by simpa using h), List.set_set]
  · rw [if_neg h, if_neg h]
theorem takeWhile_le {S : List Tm} {x y : Int} (h : x ≤ y) : due y S = due x S ++ due y (left x S) ∧ left y S = left y (left x S) := by
  unfold due left
  induction S with
  | nil => simp
  | cons t S ih =>
    obtain ⟨i1, i2⟩ := ih
    by_cases hx : t.2.1 ≤ x
    · have hy : t.2.1 ≤ y := by omega
      simp only [List.takeWhile_cons, List.dropWhile_cons, decide_eq_true hx, decide_eq_true hy, if_true]
      exact ⟨by rw [i1]; rfl, i2⟩
    · have e1 : List.takeWhile (fun t : Tm => decide (t.2.1 ≤ x)) (t :: S) = [] := by simp [hx]
      have e2 : List.dropWhile (fun t : Tm => decide (t.2.1 ≤ x)) (t :: S) = t :: S := by simp [hx]
      rw [e1, e2]
      exact ⟨rfl, rfl⟩
theorem ticked_two (s : St) (k : Int) (hk : 0 ≤ k) : ticked (ticked s k) k = ticked s (2 * k) := by
  unfold ticked
  have e : s.now + k + k = s.now + 2 * k := by omega
  simp only [e]
  obtain ⟨e1, e2⟩ := takeWhile_le (S := s.S) (x := s.now + k) (y := s.now + 2 * k) (by omega)
  rw [← e2, e1]
  congr 1
  unfold ids
  rw [List.map_append, wkAll_app]
theorem runs_T (told : Told) : ∀ (m k : Nat) (s : St), (runs told m k s).2.1.T ≤ s.T + m ∧ (runs told m k s).2.1.now = s.now ∧ (runs told m k s).2.1.A.length = s.A.length ∧ (runs told m k s).1.length ≤ m
  | 0, k, s => ⟨by simp [runs], rfl, rfl, Nat.le_refl _⟩
  | m + 1, k, s => by
    cases h : lo s.A with
    | none => rw [runs_none h]; exact ⟨by simp; omega, rfl, rfl, by simp⟩
    | some i =>
      rw [runs_some h]
      obtain ⟨h1, h2, h3, h4⟩ := runs_T told m (k + 1) (stepR told k i s)
      have h5 := stepR_T told k i s
      refine ⟨by simp only; omega, h2.trans (by unfold stepR; rw [heeded_now]), h3.trans (stepR_len _ _ _ _), by simp; omega⟩
end Go.Proofs.Ytehphgpkhfokhaa
