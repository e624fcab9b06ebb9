/- append to the reference's queue. -/
import Derived.Test.YtfgljkeohoffiaaZf
import Derived.ArgAppend
namespace Go.Proofs.Ytfgljkeohoffiaa
open Go.RowKit Go.Conc
theorem qo_row {w : World} {B g n cap : Nat} {l : List Raw} (h : w.ownsRow B Erw 4 (.slice (some ⟨g, 0, none⟩) n cap) n (fl4 l)) (hf : ∀ j, w.frozen? ⟨g, j, none⟩ = false) : QO w (some ⟨g, 0, none⟩) cap l := by
  have hl := h.1
  rw [fl4_len] at hl
  rcases h.2 with ⟨e1, _⟩ | ⟨g', cap', cur, e1, hB, hg, h1, h2, h3, h4⟩
  · cases e1
  · cases e1
    refine ⟨lr_row h, by omega, .inr ⟨g, 0, rfl, (h.lt g rfl).2, fun j hj => ⟨?_, by rw [Nat.zero_add]; exact hf j⟩⟩⟩
    rw [Nat.zero_add, cell_of_row w g j cur _ _ hg]
    rw [Array.getElem?_eq_getElem (by omega)]; rfl
theorem fr_alloc {w : World} {cs : Array Value} {e : TypeId} {j : Nat} : (w.alloc (.cells cs e)).frozen? ⟨w.heap.size, j, none⟩ = false := by
  unfold World.frozen?; rw [heap_alloc_new]; simp
theorem row_thaw {w : World} {B g n cap : Nat} {v : List Value} (h : w.ownsRow B Erw 4 (.slice (some ⟨g, 0, none⟩) n cap) n v) : ∀ j, w.frozen? ⟨g, j, none⟩ = false := by
  intro j
  rcases h.2 with ⟨e1, _⟩ | ⟨g', cap', cur, e1, hB, hg, h1⟩
  · cases e1
  · cases e1
    unfold World.frozen?; rw [hg]; simp
theorem setCells_heap (b : Nat) : ∀ (vs : List Value) (o : Nat) (w : World), (w.setCells b o vs).heap.size = w.heap.size ∧ ∀ k, k ≠ b → (w.setCells b o vs).heap[k]? = w.heap[k]?
  | [], _, _ => ⟨rfl, fun _ _ => rfl⟩
  | v :: vs, o, w => by
    obtain ⟨h1, h2⟩ := setCells_heap b vs (o + 1) (w.setCell ⟨b, o, none⟩ v)
    refine ⟨h1.trans (by simp), fun k hk => (h2 k hk).trans (heap_setCell_far _ _ _ _ _ (fun e => hk (by first | exact e | exact e.symm)))⟩
theorem smp_app_old (q : List Raw) (z : Raw) {i : Nat} (h : i < q.length) : smp (q ++ [z]) i = smp q i := by simp [smp, List.getElem?_append_left h]
theorem smp_app_new (q : List Raw) (z : Raw) : smp (q ++ [z]) q.length = z := by simp [smp]
/-- a sample behind the others -/
theorem run_append_queue (w : World) (qa : Option Addr) (qc : Nat) (q : List Raw) (h : QO w qa qc q) (hq : q.length ≤ 100) (ty : TypeId) (ad : Addr) (c : Nat) (z : Raw) (hnews : ∀ j u, (fl4 [z])[j]? = some u → w.cell? (ad.add j) = some u) :
    ∃ qa' qc' w', (Builtin.append_ #[33, 33] ty #[.slice qa q.length qc, .slice (some ad) 1 c]).run Try.prog w = .ok (.slice qa' (q.length + 1) qc') w' ∧ QO w' qa' qc' (q ++ [z]) ∧ Tn (QB qa) w w' ∧ ∀ k, QB qa' k → QB qa k ∨ w.heap.size ≤ k := by
  obtain ⟨i0, hi, hz0, hz1, hz2⟩ := info_parts Try.infoTq
  have hl1 : (fl4 [z]).length = 1 * 4 := rfl
  have h63 : q.length + 1 ≤ maxLen := by unfold maxLen; omega
  have hby : (q.length + 1) * 32 ≤ 140737488355328 := by omega
  rcases h.fo with ⟨rfl, rfl⟩ | ⟨b, off, rfl, hb, hc⟩
  · have e0 : q = [] := List.eq_nil_of_length_eq_zero (by have := h.le; omega)
    subst e0
    obtain ⟨g, cap, w', hr, ho, hg, _, _⟩ := run_append_lies (P := Try.prog) w 33 ty w.heap.size Erw i0 _ 4 32 Try.underlying33 hi hz0 hz1 hz2 rfl (by decide) (.slice none 0 0) 0 [] (World.ownsRow_nil _ _ _ _) ad 1 c (fl4 [z]) hl1 hnews (fl4_one _) (by decide) h63 hby (Nat.le_refl _) _ rfl
    refine ⟨_, cap, w', hr, qo_row ho (row_thaw ho), (Tn.refl _ w).grown hg (fun k e => by cases e), fun k ⟨_, e⟩ => ?_⟩
    cases e
    exact .inr (ho.lt g rfl).1
  · by_cases hroom : q.length + 1 ≤ qc
    · have hs4 : i0.size = 4 := hz1
      have hr := run_append_room_cells (P := Try.prog) w 33 ty Erw i0 Try.underlying33 hi b off q.length qc ad 1 c (fl4 [z]) (by rw [hs4]; rfl) hnews (fl4_one _) hroom (fun j hj => by rw [hs4]; have := (hc (q.length * 4 + j) (by simp [fl4_len] at hj; omega)).1; rwa [← Nat.add_assoc] at this) (fun j hj => by rw [hs4]; have := (hc (q.length * 4 + j) (by simp [fl4_len] at hj; omega)).2; rwa [← Nat.add_assoc] at this)
      rw [hs4] at hr
      obtain ⟨sz, hk⟩ := setCells_heap b (fl4 [z]) (off + q.length * 4) w
      refine ⟨_, qc, _, hr, ⟨fun i hi2 => ⟨b, off, rfl, c4_of fun k hk4 => ?_⟩, by simp; omega, .inr ⟨b, off, rfl, by rw [sz]; exact hb, fun j hj => ⟨?_, by rw [World.frozen?_setCells]; exact (hc j hj).2⟩⟩⟩, ?_, fun k e => .inl e⟩
      · have hl := hi2
        simp only [List.length_append, List.length_cons, List.length_nil] at hl
        by_cases hi3 : i < q.length
        · obtain ⟨b', o', e', c'⟩ := h.li i hi3
          cases e'
          rw [smp_app_old q z hi3, World.cell?_setCells_out b (fl4 [z]) _ w ⟨b, off + i * 4 + k, none⟩ (fun _ _ => .inl (by show off + i * 4 + k < _; omega))]
          exact c'.fld hk4
        · have e3 : i = q.length := by omega
          subst e3
          rw [smp_app_new, World.cell?_setCells_in b (fl4 [z]) (off + q.length * 4) w (fun j hj => by have := (hc (q.length * 4 + j) (by simp [fl4_len] at hj; omega)).1; rwa [← Nat.add_assoc] at this) k (by simpa [fl4_len] using hk4)]
          match k, hk4 with
          | 0, _ => rfl
          | 1, _ => rfl
          | 2, _ => rfl
          | 3, _ => rfl
          | k + 4, h => omega
      · by_cases hj2 : q.length * 4 ≤ j ∧ j < q.length * 4 + 4
        · have e4 : off + j = off + q.length * 4 + (j - q.length * 4) := by omega
          rw [e4, World.cell?_setCells_in b (fl4 [z]) (off + q.length * 4) w (fun j hj => by have := (hc (q.length * 4 + j) (by simp [fl4_len] at hj; omega)).1; rwa [← Nat.add_assoc] at this) (j - q.length * 4) (by simp [fl4_len]; omega)]
          rfl
        · rw [World.cell?_setCells_out b (fl4 [z]) _ w ⟨b, off + j, none⟩ (fun _ _ => by show off + j < _ ∨ _ ≤ off + j; rw [fl4_len]; simp only [List.length_cons, List.length_nil]; omega)]
          exact (hc j hj).1
      · have hB : QB (some ⟨b, off, none⟩) b := ⟨off, rfl⟩
        exact ((((Tn.refl _ w).set (.inl hB) _ _).set (.inl hB) _ _).set (.inl hB) _ _).set (.inl hB) _ _
    · obtain ⟨v', w', hr, ho, hg⟩ := run_append_arg_grows (P := Try.prog) w 33 ty Erw i0 _ 4 32 Try.underlying33 hi hz0 hz1 hz2 rfl (by decide) ⟨b, off, none⟩ q.length qc (fl4 q) (fl4_len q) h.li.news ad 1 c (fl4 [z]) hl1 hnews (by omega) h63 hby
      rw [← fl4_app] at ho
      obtain ⟨g, cap, rfl, hB, hlt⟩ := ho.form (by omega)
      refine ⟨_, cap, w', hr, qo_row ho (row_thaw ho), (Tn.refl _ w).grown hg (fun k e => by cases e), fun k ⟨_, e⟩ => ?_⟩
      cases e
      exact .inr hB
end Go.Proofs.Ytfgljkeohoffiaa
