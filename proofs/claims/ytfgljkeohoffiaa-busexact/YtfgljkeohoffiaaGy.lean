/- BusFaults: what its transactions come to. -/
import Derived.Test.YtfgljkeohoffiaaGv
namespace Go.Proofs.Ytfgljkeohoffiaa
open Go.RowKit Go.Conc
theorem flt_app : ∀ (l : List Flt) (f : Flt) (x : Int), flt (l ++ [f]) x = if flt l x = none then (if x = f.at_ then some f else none) else flt l x
  | [], f, x => by simp [flt]
  | g :: l, f, x => by
    by_cases h : x = g.at_
    · simp [flt, h]
    · have e1 : flt (g :: l) x = flt l x := by simp [flt, h]
      have e2 : flt ((g :: l) ++ [f]) x = flt (l ++ [f]) x := by simp [flt, h]
      rw [e1, e2]; exact flt_app l f x
theorem take_gf (F : List Flt) {k : Nat} (h : k < F.length) : F.take (k + 1) = F.take k ++ [gf F k] := by
  rw [List.take_add_one]
  simp [gf, h]
/-- the first one with a number stays the first one -/
theorem flt_fsts (F : List Flt) (x : Int) : ∀ k, k ≤ F.length → flt (fsts F k) x = flt (F.take k) x
  | 0, _ => by simp [fsts]
  | k + 1, h => by
    have ih := flt_fsts F x k (by omega)
    have ia := flt_fsts F (gf F k).at_ k (by omega)
    have es : fsts F (k + 1) = if flt (fsts F k) (gf F k).at_ = none then fsts F k ++ [gf F k] else fsts F k := rfl
    rw [take_gf F (by omega), flt_app, ← ih, es]
    by_cases e : flt (fsts F k) (gf F k).at_ = none
    · rw [if_pos e, flt_app]
    · rw [if_neg e]
      by_cases e2 : flt (fsts F k) x = none
      · rw [if_pos e2]
        by_cases e3 : x = (gf F k).at_
        · rw [e3] at e2; exact absurd e2 e
        · rw [if_neg e3]; exact e2
      · rw [if_neg e2]
theorem flt_all (F : List Flt) (x : Int) : flt (fsts F F.length) x = flt F x := by
  rw [flt_fsts F x _ (Nat.le_refl _), List.take_length]
theorem flt_mem : ∀ {F : List Flt} {x : Int} {f : Flt}, flt F x = some f → f ∈ F ∧ f.at_ = x
  | [], _, _, h => by cases h
  | g :: F, x, f, h => by
    unfold flt at h
    split at h
    · cases h; exact ⟨by simp, by simp_all⟩
    · have := flt_mem h; exact ⟨by simp [this.1], this.2⟩
theorem flt_none : ∀ {F : List Flt} {x : Int}, flt F x = none ↔ ∀ f ∈ F, f.at_ ≠ x
  | [], x => by simp [flt]
  | g :: F, x => by
    unfold flt
    by_cases h : x = g.at_
    · rw [if_pos h]; simp [h]
    · rw [if_neg h, flt_none (F := F)]
      simp only [List.mem_cons, forall_eq_or_imp]
      exact ⟨fun q => ⟨fun e => h e.symm, q⟩, fun q => q.2⟩
theorem fnd_congr {D D' : Nat → Dv} {a : Int} : ∀ {n : Nat}, (∀ i, i < n → D i = D' i) → fnd D n a = fnd D' n a
  | 0, _ => rfl
  | n + 1, h => by
    unfold fnd
    rw [fnd_congr (n := n) (fun i hi => h i (by omega)), h n (by omega)]
/-- two buses that are alike but for their faults -/
structure EqB (s1 s2 : Bs) : Prop where
  n : s1.n = s2.n
  d : ∀ i, i < s1.n → s1.D i = s2.D i
  c : s1.cnt = s2.cnt
theorem EqB.tick {s1 s2 : Bs} (h : EqB s1 s2) (k : Nat) : EqB (tickB s1 k) (tickB s2 k) := by
  refine ⟨h.n, fun i hi => ?_, h.c⟩
  show tkTo s1.D k s1.n i = tkTo s2.D k s2.n i
  have hi' : i < s1.n := hi
  unfold tkTo
  rw [if_pos hi', if_pos (by rw [← h.n]; exact hi'), h.d i hi']
theorem do_F (s : Bs) (addr : Int) (reg : Nat) (l : List Nat) (n : Nat) : (doB s addr reg l n).2.2.F = s.F := by
  unfold doB
  split
  · rfl
  · split
    · rfl
    · split <;> rfl
theorem do_cnt (s : Bs) (addr : Int) (reg : Nat) (l : List Nat) (n : Nat) : (doB s addr reg l n).2.2.cnt = wrap64 (s.cnt + 1) := by
  unfold doB
  split
  · rfl
  · split
    · rfl
    · split <;> rfl
theorem EqB.do {s1 s2 : Bs} (h : EqB s1 s2) (h0 : s2.F = []) (hk : s1.flt.kind ≠ 1) (addr : Int) (reg : Nat) (l : List Nat) (n : Nat) :
    EqB (doB s1 addr reg l n).2.2 (doB s2 addr reg l n).2.2 ∧ (s1.flt = noF → (doB s1 addr reg l n).1 = (doB s2 addr reg l n).1 ∧ (doB s1 addr reg l n).2.1 = (doB s2 addr reg l n).2.1) ∧
    ((doB s1 addr reg l n).1 = 1 → (doB s2 addr reg l n).1 = 1 ∧ (doB s1 addr reg l n).2.1.length = (doB s2 addr reg l n).2.1.length) := by
  have hf : fnd s1.D s1.n addr = fnd s2.D s2.n addr := by rw [fnd_congr h.d, h.n]
  have z := (no_flt s2 h0).1
  cases e : fnd s1.D s1.n addr with
  | none =>
    have e2 := hf ▸ e
    have d1 : doB s1 addr reg l n = (2, [], { s1 with cnt := wrap64 (s1.cnt + 1) }) := by unfold doB; rw [e]
    have d2 : doB s2 addr reg l n = (2, [], { s2 with cnt := wrap64 (s2.cnt + 1) }) := by unfold doB; rw [e2]
    rw [d1, d2]
    exact ⟨⟨h.n, h.d, by show wrap64 _ = wrap64 _; rw [h.c]⟩, fun _ => ⟨rfl, rfl⟩, fun q => by cases q⟩
  | some i =>
    have e2 := hf ▸ e
    have hi := (fnd_lt e).1
    have d2 := do_plain s2 h0 e2 reg l n
    have hq : EqB { s1 with cnt := wrap64 (s1.cnt + 1), D := upd s1.D i ((s1.D i).does reg l n) } { s2 with cnt := wrap64 (s2.cnt + 1), D := upd s2.D i ((s2.D i).does reg l n) } := by
      refine ⟨h.n, fun j hj => ?_, by show wrap64 _ = wrap64 _; rw [h.c]⟩
      show upd s1.D i _ j = upd s2.D i _ j
      by_cases ej : j = i
      · subst ej; rw [upd_at, upd_at, h.d j hi]
      · rw [upd_ne _ _ ej, upd_ne _ _ ej]; exact h.d j hj
    by_cases k2 : s1.flt.kind = 2
    · have d1 : doB s1 addr reg l n = (3, [], { s1 with cnt := wrap64 (s1.cnt + 1), D := upd s1.D i ((s1.D i).does reg l n) }) := by unfold doB; rw [e]; simp only; rw [if_neg hk, if_pos k2]
      rw [d1, d2]
      refine ⟨hq, fun q => ?_, fun q => by cases q⟩
      rw [q] at k2; cases k2
    · have d1 : doB s1 addr reg l n = (1, corr s1.flt ((s1.D i).tells reg l n), { s1 with cnt := wrap64 (s1.cnt + 1), D := upd s1.D i ((s1.D i).does reg l n) }) := by unfold doB; rw [e]; simp only; rw [if_neg hk, if_neg k2]
      rw [d1, d2, h.d i hi]
      refine ⟨by rw [← h.d i hi]; rw [← h.d i hi] at hq; exact hq, fun q => ⟨rfl, ?_⟩, fun _ => ⟨rfl, by simp only [corr_len]⟩⟩
      rw [q]; rfl
theorem tells_len (s : Dv) (reg : Nat) (l : List Nat) (n : Nat) : (s.tells reg l n).length ≤ n := by
  unfold Dv.tells
  split
  · exact Nat.zero_le _
  · split
    · rw [List.length_take]; omega
    · simp [Dv.reads]
theorem do_len (s : Bs) (addr : Int) (reg : Nat) (l : List Nat) (n : Nat) : (doB s addr reg l n).2.1.length ≤ n := by
  unfold doB
  split
  · exact Nat.zero_le _
  · split
    · exact Nat.zero_le _
    · split
      · exact Nat.zero_le _
      · show (corr _ _).length ≤ n; rw [corr_len]; exact tells_len _ _ _ _
/-- two buses beside each other -/
structure Two (w0 wr : World) (y1 : BA) (s1 : Bs) (y2 : BA) (s2 : Bs) : Prop where
  a : Rg w0 wr y1 s1
  b : Rg w0 wr y2 s2
  ap : ∀ k, FB y1 k → ¬ FB y2 k
section
variable {w0 wr w' : World} {y1 y2 : BA} {s1 s2 s' : Bs}
theorem Two.ext (h : Two w0 wr y1 s1 y2 s2) (x : Ext wr w') : Two w0 w' y1 s1 y2 s2 := ⟨h.a.ext x, h.b.ext x, h.ap⟩
theorem Two.one (h : Two w0 wr y1 s1 y2 s2) (d : Bd y1 s' wr w') : Two w0 w' y1 s' y2 s2 := ⟨h.a.bd d, ⟨(h.a.bd d).x, h.b.b.tn d.2 (fun k o q => h.ap k q o), h.b.f⟩, h.ap⟩
theorem Two.two (h : Two w0 wr y1 s1 y2 s2) (d : Bd y2 s' wr w') : Two w0 w' y1 s1 y2 s' := ⟨⟨(h.b.bd d).x, h.a.b.tn d.2 (fun k o q => h.ap k o q), h.a.f⟩, h.b.bd d, h.ap⟩
/-- a transaction, with what it answers lying in new memory -/
theorem bd_do (h : Rg w0 wr y1 s1) (addr : Int) (reg : Nat) (a : Option Addr) (l : List Nat) (c n : Nat) (hl : l.length ≤ maxLen) (ho : okT addr reg l.length n = true) (hb : BR wr a l) (ha : ∀ k off, 0 < l.length → a = some ⟨k, off, none⟩ → k < w0.heap.size) (hi : ∀ k, 0 ≤ ((flt s1.F k).getD noF).idx) :
    Calls Try.prog 16 #[.pointer (some ⟨y1.b, 0, none⟩), txv addr reg a l.length c n] wr fun e w' => ∃ a' c', e = .returned (.tuple #[ansV (doB s1 addr reg l n).1 (.slice a' (doB s1 addr reg l n).2.1.length c'), .int .i64 0]) ∧ RdB w' (.slice a' (doB s1 addr reg l n).2.1.length c') (doB s1 addr reg l n).2.1 ∧ (∀ k, (Value.slice a' (doB s1 addr reg l n).2.1.length c').ownBlock = some k → wr.heap.size ≤ k) ∧ Bd y1 (doB s1 addr reg l n).2.2 wr w' := by
  refine (do_ok wr h.b addr reg a l c n hl ho hb (fun k off h0 e o => by have := ha k off h0 e; have := h.f k o; omega) hi).mono ?_
  rintro e w' ⟨v, rfl, o, d⟩
  have ol := o.lt
  obtain ⟨a', c', rfl⟩ := row_form o
  exact ⟨a', c', rfl, rdb_row o, fun k e => (ol k e).1, d⟩
end
end Go.Proofs.Ytfgljkeohoffiaa
