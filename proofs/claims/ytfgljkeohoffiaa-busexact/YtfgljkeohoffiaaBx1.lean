/- Copies: models. -/
import Derived.Test.YtfgljkeohoffiaaZn
import Derived.Test.YtfgljkeohoffiaaGn
namespace Go.Proofs.Ytfgljkeohoffiaa
open Go.RowKit Go.Conc
abbrev Emd : TypeId := 35
theorem Try.infoTm : (Try.prog.info? Emd).map (fun i => (i.zero, i.size, i.bytes)) = some (some (mv ⟨0, 0, []⟩ none 0), 3, 40) := by kernel_rfl
def mdc (m : Md) (a : Option Addr) (c : Nat) : List Value := [.int .i64 m.addr, .int .i64 m.id, .slice a m.list.length c]
/-- the cells of models whose lists lie at A -/
def mls (M : List Md) (A : Nat → Option Addr) (LC : Nat → Nat) : Nat → List Value
  | 0 => []
  | k + 1 => mls M A LC k ++ mdc (gm M k) (A k) (LC k)
theorem mls_len (M : List Md) (A : Nat → Option Addr) (LC : Nat → Nat) : ∀ k, (mls M A LC k).length = k * 3
  | 0 => rfl
  | k + 1 => by
    show (mls M A LC k ++ mdc (gm M k) (A k) (LC k)).length = _
    rw [List.length_append, mls_len M A LC k]
    show k * 3 + 3 = _
    omega
theorem mls_at (M : List Md) (A : Nat → Option Addr) (LC : Nat → Nat) (i : Nat) : ∀ k, i < k → (mls M A LC k)[i * 3]? = some (.int .i64 (gm M i).addr) ∧ (mls M A LC k)[i * 3 + 1]? = some (.int .i64 (gm M i).id) ∧ (mls M A LC k)[i * 3 + 2]? = some (.slice (A i) (gm M i).list.length (LC i))
  | 0, h => by omega
  | k + 1, h => by
    show (mls M A LC k ++ mdc (gm M k) (A k) (LC k))[i * 3]? = _ ∧ (mls M A LC k ++ mdc (gm M k) (A k) (LC k))[i * 3 + 1]? = _ ∧ (mls M A LC k ++ mdc (gm M k) (A k) (LC k))[i * 3 + 2]? = _
    have hl := mls_len M A LC k
    by_cases e : i = k
    · subst e
      refine ⟨?_, ?_, ?_⟩
      · rw [List.getElem?_append_right (by omega), show i * 3 - (mls M A LC i).length = 0 by omega]; rfl
      · rw [List.getElem?_append_right (by omega), show i * 3 + 1 - (mls M A LC i).length = 1 by omega]; rfl
      · rw [List.getElem?_append_right (by omega), show i * 3 + 2 - (mls M A LC i).length = 2 by omega]; rfl
    · obtain ⟨h0, h1, h2⟩ := mls_at M A LC i k (by omega)
      refine ⟨?_, ?_, ?_⟩
      · rw [List.getElem?_append_left (by omega)]; exact h0
      · rw [List.getElem?_append_left (by omega)]; exact h1
      · rw [List.getElem?_append_left (by omega)]; exact h2
theorem mls_congr (M : List Md) {A A' : Nat → Option Addr} {LC LC' : Nat → Nat} : ∀ k, (∀ i, i < k → A' i = A i ∧ LC' i = LC i) → mls M A' LC' k = mls M A LC k
  | 0, _ => rfl
  | k + 1, h => by
    show mls M A' LC' k ++ mdc (gm M k) (A' k) (LC' k) = mls M A LC k ++ mdc (gm M k) (A k) (LC k)
    rw [mls_congr M k (fun i hi => h i (by omega)), (h k (by omega)).1, (h k (by omega)).2]
theorem mdc_one (m : Md) (a : Option Addr) (c : Nat) : ∀ u ∈ mdc m a c, u.oneCell' = true := by
  intro u hu
  simp only [mdc, List.mem_cons, List.mem_nil_iff, or_false] at hu
  rcases hu with rfl | rfl | rfl <;> rfl
theorem newm (w : World) (m : Md) (a : Option Addr) (c : Nat) : ∀ j u, (mdc m a c)[j]? = some u → (w.alloc (mc m a c)).cell? ((⟨w.heap.size, 0, none⟩ : Addr).add j) = some u := by
  intro j u hu
  have hj : j < 3 := by have := (List.getElem?_eq_some_iff.1 hu).1; simpa [mdc] using this
  obtain ⟨g0, g1, g2⟩ := m3_new (w := w) (m := m) (a := a) (c := c) rfl
  rw [add_plain]
  match j, hj with
  | 0, _ => cases hu; exact g0
  | 1, _ => cases hu; exact g1
  | 2, _ => cases hu; exact g2
  | j + 3, h => omega
/-- lists of k models, each a row of its own, none of them in the block of v -/
def Lists (w : World) (B : Nat) (M : List Md) (k : Nat) (v : Value) (A : Nat → Option Addr) (LC : Nat → Nat) : Prop :=
  ∀ i, i < k → w.ownsRow B Erw 4 (.slice (A i) (gm M i).list.length (LC i)) (gm M i).list.length (fl4 (gm M i).list) ∧ ∀ g, (Value.slice (A i) (gm M i).list.length (LC i)).ownBlock = some g → v.ownBlock ≠ some g
theorem Lists.ext {w w' : World} {B : Nat} {M : List Md} {k : Nat} {v : Value} {A : Nat → Option Addr} {LC : Nat → Nat} (h : Lists w B M k v A LC) (x : Ext w w') : Lists w' B M k v A LC := fun i hi => ⟨row_ext (h i hi).1 x, (h i hi).2⟩
/-- one more, behind an append to v -/
theorem Lists.more {w1 w4 w9 : World} {B : Nat} {M : List Md} {k : Nat} {v v' : Value} {A : Nat → Option Addr} {LC : Nat → Nat} {o : Obj} {r : Option Addr} {rc : Nat} (h : Lists w4 B M k v A LC) (h1 : ∀ g, v.ownBlock = some g → g < w1.heap.size) (hB : B ≤ w1.heap.size)
    (hr : w4.ownsRow w1.heap.size Erw 4 (.slice r (gm M k).list.length rc) (gm M k).list.length (fl4 (gm M k).list)) (hg : (w4.alloc o).grownBy w9 v.ownBlock) (hv : ∀ g, v'.ownBlock = some g → v.ownBlock = some g ∨ w4.heap.size + 1 = g) :
    Lists w9 B M (k + 1) v' (upd A k r) (upd LC k rc) := by
  have t : Tn (fun j => v.ownBlock = some j) w4 w9 := (Tn.of_ext ((Ext.refl w4).alloc o)).grown hg (fun j e => .inl e)
  intro i hi
  by_cases e : i = k
  · subst e
    rw [upd_at, upd_at]
    refine ⟨row_tn (row_base hr hB) t (fun g _ e1 e2 => ?_), fun g e1 e2 => ?_⟩
    · have := (hr.lt g e1).1
      have := h1 g e2
      omega
    · have q := hr.lt g e1
      rcases hv g e2 with e3 | e3
      · have := h1 g e3; omega
      · omega
  · rw [upd_ne _ _ e, upd_ne _ _ e]
    obtain ⟨a1, a2⟩ := h i (by omega)
    refine ⟨row_tn a1 t (fun g _ e1 e2 => a2 g e1 e2), fun g e1 e2 => ?_⟩
    rcases hv g e2 with e3 | e3
    · exact a2 g e1 e3
    · have := (a1.lt g e1).2; omega
/-- k models are copied -/
structure CM (w0 wr : World) (M : List Md) (k : Nat) (v : Value) (A : Nat → Option Addr) (LC : Nat → Nat) : Prop where
  x : Ext w0 wr
  row : wr.ownsRow w0.heap.size Emd 3 v k (mls M A LC k)
  li : Lists wr w0.heap.size M k v A LC
theorem CM.more {w0 w1 w4 w9 : World} {M : List Md} {k : Nat} {v v' : Value} {A : Nat → Option Addr} {LC : Nat → Nat} {o : Obj} {r : Option Addr} {rc : Nat} (h : CM w0 w1 M k v A LC) (x : Ext w1 w4)
    (hr : w4.ownsRow w1.heap.size Erw 4 (.slice r (gm M k).list.length rc) (gm M k).list.length (fl4 (gm M k).list)) (hown : w9.ownsRow w0.heap.size Emd 3 v' (k + 1) (mls M A LC k ++ mdc (gm M k) r rc)) (hg : (w4.alloc o).grownBy w9 v.ownBlock) (hv : ∀ g, v'.ownBlock = some g → v.ownBlock = some g ∨ w4.heap.size + 1 = g) :
    CM w0 w9 M (k + 1) v' (upd A k r) (upd LC k rc) := by
  have x4 : Ext w4 (w4.alloc o) := (Ext.refl w4).alloc o
  refine ⟨row_grown hg (row_ext h.row (x.trans x4)) ((h.x.trans x).trans x4) (Nat.le_refl _), ?_, (h.li.ext x).more (fun g e => (h.row.lt g e).2) h.x.size hr hg hv⟩
  show w9.ownsRow w0.heap.size Emd 3 v' (k + 1) (mls M (upd A k r) (upd LC k rc) k ++ mdc (gm M k) (upd A k r k) (upd LC k rc k))
  rw [upd_at, upd_at, mls_congr M (A := A) (LC := LC) k (fun i hi => ⟨upd_ne _ _ (by omega), upd_ne _ _ (by omega)⟩)]
  exact hown
set_option maxRecDepth 20000 in
set_option maxHeartbeats 4000000 in
theorem copymodels_any (w : World) (a : Option Addr) (M : List Md) (c : Nat) (h : MRs w a M) (hm : M.length ≤ 40 ∧ ∀ i, i < M.length → (gm M i).list.length ≤ 100000) :
    Calls Try.prog 5 #[.slice a M.length c] w fun e w' => ∃ r rc, e = .returned (.slice r M.length rc) ∧ ∃ A LC, CM w w' M M.length (.slice r M.length rc) A LC := by
  obtain ⟨i0, hi, hz0, hz1, hz2⟩ := info_parts Try.infoTm
  have HL : Hid (∀ wr, Ext w wr → MRs wr a M) := fun wr x => h.ext x
  have HM : Hid (∀ i, i < M.length → (gm M i).list.length ≤ 100000) := hm.2
  have h40 := hm.1
  have H0 : Hid (CM w w M 0 (.slice none 0 0) (fun _ => none) (fun _ => 0)) := ⟨Ext.refl _, World.ownsRow_nil _ _ _ _, fun i hi => absurd hi (Nat.not_lt_zero _)⟩
  clear h hm
  go_enter Try.func5, Try.ntmps5
  go_wp2_with fail
  go_loopw [3, 4] (fun v i wr => ∃ (k : Nat) (r : Option Addr) (cc : Nat) (A : Nat → Option Addr) (LC : Nat → Nat), k ≤ M.length ∧ v = .slice r k cc ∧ i = .int .i64 k ∧ Hid (CM w wr M k (.slice r k cc) A LC)) (fun _ i _ => M.length - (intOf i).toNat)
  case atStart => exact ⟨0, none, 0, _, _, Nat.zero_le _, rfl, rfl, H0⟩
  case round =>
    obtain ⟨k, r, cc, A, LC, hk, rfl, rfl, hR⟩ := hrel
    clear H0
    by_cases hlt : k < M.length
    · have hlti : (k : Int) < (M.length : Int) := by omega
      obtain ⟨b, off, la, lc, ha, ⟨j0, j1, j2⟩, hlr, _⟩ := HL.out wr hR.out.x k hlt
      subst ha
      have HC := copymodel_any wr (gm M k) la lc hlr (HM.out k hlt)
      have HT : Hid (∀ w4 w9 (v' : Value) (o : Obj) r1 rc1, Ext wr w4 → w4.ownsRow wr.heap.size Erw 4 (.slice r1 (gm M k).list.length rc1) (gm M k).list.length (fl4 (gm M k).list) → w9.ownsRow w.heap.size Emd 3 v' (k + 1) (mls M A LC k ++ mdc (gm M k) r1 rc1) → (w4.alloc o).grownBy w9 (Value.slice r k cc).ownBlock → (∀ g, v'.ownBlock = some g → (Value.slice r k cc).ownBlock = some g ∨ w4.heap.size + 1 = g) → CM w w9 M (k + 1) v' (upd A k r1) (upd LC k rc1)) := fun w4 w9 v' o r1 rc1 x hr hown hg hv => hR.out.more x hr hown hg hv
      have HS : Hid (∀ w4, Ext wr w4 → w4.ownsRow w.heap.size Emd 3 (.slice r k cc) k (mls M A LC k) ∧ w.heap.size ≤ w4.heap.size) := fun w4 x => ⟨row_ext hR.out.row x, Nat.le_trans hR.out.x.size x.size⟩
      clear hlr hR
      have HT2 := HT
      generalize hgm : gm M k = m at *
      obtain ⟨addr, id, list⟩ := m
      simp only at j0 j1 j2
      have h63 : k + 1 ≤ maxLen := by unfold maxLen; omega
      have hby : (k + 1) * 40 ≤ 140737488355328 := by omega
      clear HT2 hgm
      go_wp2_with (first | (go_at_call 23; refine HC.mono ?_; rintro e w4 ⟨r1, rc1, rfl, o4, x4⟩) | (at_builtin; refine wpList_append_lies _ rfl (.tmp 11) (.tmp 17) 22 rfl w.heap.size Emd i0 (mv ⟨0, 0, []⟩ none 0) 3 40 Try.underlying22 hi hz0 hz1 hz2 rfl (by decide) _ k (mls M A LC k) rfl (by exact row_ext (HS.out w4 x4).1 ((Ext.refl w4).alloc _)) ⟨w4.heap.size, 0, none⟩ 1 1 (mdc ⟨addr, id, list⟩ r1 rc1) rfl rfl (by exact newm w4 _ _ _) (mdc_one _ _ _) (by decide) h63 hby (by have q := (HS.out w4 x4).2; simp; omega) (w4.heap.size + 1) (by simp) ?_; intro g' cap' w9 hown' hg' hgb hgl; have R9 : Hid (CM w w9 M (k + 1) (.slice (some ⟨g', 0, none⟩) (k + 1) cap') (upd A k r1) (upd LC k rc1)) := (HT.out w4 w9 _ _ r1 rc1 x4 o4 hown' hg' (fun g e => by cases e; rcases hgb with q | q; exact .inl q; exact .inr q.symm)); clear hown' hg' hgb hgl))
      go_roundw
      case measure => simp [intOf]; omega
      case rel => exact ⟨k + 1, _, cap', _, _, by omega, rfl, by simp, R9⟩
    · have hlti : ¬ (k : Int) < (M.length : Int) := by omega
      have hkl : k = M.length := by omega
      subst hkl
      go_wp2_with fail
      go_ret
      exact ⟨r, cc, rfl, A, LC, hR.out⟩
end Go.Proofs.Ytfgljkeohoffiaa
