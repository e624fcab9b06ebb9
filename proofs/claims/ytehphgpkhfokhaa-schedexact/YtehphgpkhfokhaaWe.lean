/- SchedExact: the reference's runs. -/
import Derived.Test.YtehphgpkhfokhaaWd
namespace Go.Proofs.Ytehphgpkhfokhaa
open Go.RowKit Go.Conc
def KeepB (F : Nat → Prop) (w w' : World) : Prop := w.heap.size ≤ w'.heap.size ∧ ∀ k, F k → w'.heap[k]? = w.heap[k]?
theorem KeepB.keep {F : Nat → Prop} {w w' : World} (h : KeepB F w w') : Keep F w w' := fun k j u hk hc => by
  rw [World.cell?_of_block (w := w) (w' := w') (a := ⟨k, j, none⟩) (h.2 k hk)]; exact hc
theorem row_keepB {w w' : World} {B : Nat} {e : TypeId} {s n : Nat} {v : Value} {xs : List Value} (h : w.ownsRow B e s v n xs) (k : ∀ g, v.ownBlock = some g → w'.heap[g]? = w.heap[g]?) : w'.ownsRow B e s v n xs := by
  refine ⟨h.1, ?_⟩
  rcases h.2 with e1 | ⟨g, cap, cur, hv, hb, hg, hr⟩
  · exact .inl e1
  · refine .inr ⟨g, cap, cur, hv, hb, ?_, hr⟩
    rw [k g (by rw [hv]; rfl)]; exact hg
section
variable {F : Nat → Prop} {w wr w' : World} {t q : Nat} {s r : St}
theorem EX.blockr {b : Nat} {c : Nat → Nat} {v : Value} {g : Nat} {u u' : Value} {r' : St} (h : EX F w wr t b c v s q g u r) (d : DoesR q g u u' r r' wr w') : KeepB F wr w' := ⟨d.turn.size, fun k hk => d.turn.2.1 k (h.f k hk).2.2 (fun _ => (h.f k hk).2.1)⟩
theorem px_nextB (h : PX F w wr t q s r) :
    Calls Try.prog 19 #[.pointer (some ⟨q, 0, none⟩)] wr fun e w' => (lo r.A = none ∧ e = .returned (.int .i64 (-1)) ∧ w' = wr) ∨ ∃ i, lo r.A = some i ∧ e = .returned (.int .i64 (i : Nat)) ∧ i < r.A.length ∧ PX F w w' t q s { r with A := r.A.set i false } ∧ KeepB F wr w' := by
  obtain ⟨_, _, _, _, _, h⟩ := h
  refine (rnext_any wr h.r).mono ?_
  rintro e w' (⟨h1, h2, h3⟩ | ⟨i, h1, h2, h3, d⟩)
  · exact .inl ⟨h1, h2, h3⟩
  · exact .inr ⟨i, h1, h2, h3, ⟨_, _, _, _, _, h.right d⟩, h.blockr d⟩
theorem rdi_lt {w : World} {x : Value} {l : List Int} (h : RdI w x l) : ∀ a n cap, x = .slice a n cap → ∀ k j y, a = some ⟨k, j, y⟩ → 0 < n → k < w.heap.size := by
  intro a n cap e k j y ea hn
  obtain ⟨a', cap', e', h⟩ := h
  rw [e] at e'
  simp only [Value.slice.injEq] at e'
  obtain ⟨b, off, h1, h2⟩ := h 0 (by omega)
  have := World.block_lt_of_cell? w ⟨b, off + 0, none⟩ h2
  rw [← e'.1, ea] at h1
  simp only [Option.some.injEq, Addr.mk.injEq] at h1
  rw [h1.1]; exact this
theorem px_ranB (task : Nat) (x : Value) (l : List Int) (again : Int) (h : PX F w wr t q s r) (hx : RdI w x l) (hS : r.S.length ≤ 1000) (hl : l.length ≤ 100000) (ha : -9223372036854775808 ≤ again ∧ again ≤ 9223372036854775807) :
    Calls Try.prog 20 #[.pointer (some ⟨q, 0, none⟩), .int .i64 task, x, .int .i64 again] wr fun e w' => (∃ y, e = .returned y) ∧ PX F w w' t q s (heeded r task l again) ∧ KeepB F wr w' := by
  have hlt := rdi_lt hx
  have hx' := hx.ext h.x
  obtain ⟨_, _, _, g, u, h⟩ := h
  have hf : RdF wr (OwnQ q g u) x l := by
    obtain ⟨a, cap, e, hx⟩ := hx'
    refine ⟨a, cap, e, fun j hj => ?_⟩
    obtain ⟨b', off, h1, h2⟩ := hx j hj
    refine ⟨b', off, h1, fun o => ?_, h2⟩
    have h3 := hlt a l.length cap e b' off none h1 (by omega)
    have h4 := h.ro b' o
    omega
  refine (rran_any task x l again wr h.r hf hS hl ha).mono ?_
  rintro e w' ⟨he, v', d⟩
  exact ⟨he, ⟨_, _, _, _, _, h.right d⟩, h.blockr d⟩
end
theorem heeded_S (s : St) (task : Nat) (l : List Int) (again : Int) : (heeded s task l again).S.length ≤ s.S.length + 1 := by
  unfold heeded
  split
  · simp only
    rw [(ins_perm _ _).length_eq, List.length_cons]
    have := List.length_filter_le (fun t => decide (t.1 ≠ (task : Int))) s.S
    omega
  · simp
theorem pigeon : ∀ (n : Nat) (l : List Int), l.Nodup → (∀ x ∈ l, 0 ≤ x ∧ x < n) → l.length ≤ n
  | 0, l, _, h => by
    cases l with
    | nil => simp
    | cons x l => have := h x List.mem_cons_self; omega
  | n + 1, l, hd, h => by
    have h1 := pigeon n (l.erase (n : Int)) (hd.erase _) (fun x hx => by
      have hx1 := List.mem_of_mem_erase hx
      have hx2 := (hd.mem_erase_iff).1 hx
      have := h x hx1
      have := hx2.1
      omega)
    have h2 := List.length_erase (a := (n : Int)) (l := l)
    split at h2 <;> omega
theorem Tab.few {w : World} {t b : Nat} {c : Nat → Nat} {v : Value} {s : St} (h : Tab w t b c v s) : s.S.length ≤ 64 := by
  obtain ⟨xs, _, hw⟩ := h.wh
  have := pigeon 64 (s.S.map (·.1)) hw.2.2.2.1 (fun x hx => by
    obtain ⟨t, ht, rfl⟩ := List.mem_map.1 hx
    have := (hw.2.2.2.2.2 t ht).1
    omega)
  simpa using this
theorem PX.few {F : Nat → Prop} {w wr : World} {t q : Nat} {s r : St} (h : PX F w wr t q s r) : s.S.length ≤ 64 := by
  obtain ⟨_, _, _, _, _, h⟩ := h
  exact h.a.tab.few
/-- the reference's runs so far: the row x tells l -/
structure Inn (F : Nat → Prop) (w wr : World) (t q : Nat) (s r : St) (x : Value) (l : List Int) (B : Nat) : Prop where
  px : PX (fun j => F j ∨ x.ownBlock = some j) w wr t q s r
  row : wr.ownsRow B Ei 1 x l.length (nums l)
  hB : w.heap.size ≤ B
  d : ∀ j, F j → x.ownBlock ≠ some j
  hS : B ≤ wr.heap.size
section
variable {F : Nat → Prop} {w wr w' w2 : World} {t q : Nat} {s r r' : St} {x : Value} {l : List Int} {B : Nat}
theorem Inn.step (h : Inn F w wr t q s r x l B) (p : PX (fun j => F j ∨ x.ownBlock = some j) w w' t q s r') (k : KeepB (fun j => F j ∨ x.ownBlock = some j) wr w') : Inn F w w' t q s r' x l B :=
  ⟨p, row_keepB h.row (fun g hg => k.2 g (.inr hg)), h.hB, h.d, Nat.le_trans h.hS k.1⟩
theorem Inn.ext (h : Inn F w wr t q s r x l B) (y : Ext wr w') : Inn F w w' t q s r x l B :=
  ⟨h.px.ext y, row_ext h.row y, h.hB, h.d, Nat.le_trans h.hS y.size⟩
theorem EX.other {P : Nat → Prop} {b : Nat} {c : Nat → Nat} {v : Value} {g : Nat} {u : Value} (h : EX F w wr t b c v s q g u r) (d : Turn (fun k _ => P k) wr w') (hP : ∀ k, P k → F k ∧ w.heap.size ≤ k) : EX F w w' t b c v s q g u r :=
  ⟨⟨h.a.tab.far d (fun k o o' => (h.f k (hP k o').1).1 o), d.below h.a.x (fun k _ o => (hP k o).2), h.a.o⟩, h.r.far d (fun k o o' => (h.f k (hP k o').1).2.1 o), h.ro, h.d, fun k o => ⟨(h.f k o).1, (h.f k o).2.1, Nat.lt_of_lt_of_le (h.f k o).2.2 d.size⟩⟩
theorem Inn.app (h : Inn F w wr t q s r x l B) {g cap : Nat} {i : Int} (T : TypeId) (hg : (wr.alloc (.cells #[.int .i64 i] T)).grownBy w2 x.ownBlock) (hr : w2.ownsRow B Ei 1 (.slice (some ⟨g, 0, none⟩) (l.length + 1) cap) (l.length + 1) (nums l ++ [.int .i64 i])) (hgb : x.ownBlock = some g ∨ g = wr.heap.size + 1) :
    Inn F w w2 t q s r (.slice (some ⟨g, 0, none⟩) (l ++ [i]).length cap) (l ++ [i]) B ∧ KeepB F wr w2 := by
  have tG : Turn (fun q _ => x.ownBlock = some q) wr w2 := ((Turn.refl _ wr).alloc _).grown hg (fun q hq => .inl (fun _ => hq))
  have hlt : ∀ k, x.ownBlock = some k → B ≤ k := fun k hk => (h.row.lt k hk).1
  obtain ⟨b, c, v, g', u, e0⟩ := h.px
  have e := e0.other tG (fun k hk => ⟨.inr hk, by have := hlt k hk; have := h.hB; omega⟩)
  have hl : (l ++ [i]).length = l.length + 1 := by simp
  rw [hl]
  have hgl := hr.lt g rfl
  have hf : ∀ k, F k → k < wr.heap.size := fun k hk => (e0.f k (.inl hk)).2.2
  refine ⟨⟨⟨b, c, v, g', u, e.a, e.r, e.ro, e.d, fun k o => ?_⟩, by rw [nums_app, hl]; exact hr, h.hB, fun j hj e1 => ?_, Nat.le_trans h.hS tG.size⟩, tG.size, fun k hk => tG.2.1 k (hf k hk) (fun _ e1 => h.d k hk e1)⟩
  · rcases o with o | o
    · exact e.f k (.inl o)
    · simp only [Value.ownBlock, Option.some.injEq] at o
      subst o
      rcases hgb with z | z
      · exact e.f g (.inr z)
      · refine ⟨fun o' => ?_, fun o' => ?_, hgl.2⟩
        · have := e0.a.tab.lt g o'; omega
        · have := e0.r.lt g o'; omega
  · simp only [Value.ownBlock, Option.some.injEq] at e1
    rcases hgb with z | z
    · exact h.d j hj (by rw [z, e1])
    · have := hf j hj; omega
end
end Go.Proofs.Ytehphgpkhfokhaa
