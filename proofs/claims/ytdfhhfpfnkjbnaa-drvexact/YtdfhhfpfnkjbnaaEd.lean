/- Samples that can be read; EqRaws; two rows that grow side by side. -/
import Derived.Test.YtdfhhfpfnkjbnaaEc
namespace Go.Proofs.Ytdfhhfpfnkjbnaa
open Go.RowKit Go.Conc
/-- samples that can be read -/
def RdR (w : World) (a : Option Addr) (l : List Raw) : Prop := ∀ i, i < l.length → ∃ b off, a = some ⟨b, off, none⟩ ∧ C4 w b (off + i * 4) (sm l i)
theorem RdR.ext {w w' : World} {a : Option Addr} {l : List Raw} (h : RdR w a l) (x : Ext w w') : RdR w' a l := fun i hi => by
  obtain ⟨b, off, e, h1⟩ := h i hi
  exact ⟨b, off, e, h1.ext x⟩
theorem rvs_len (l : List Raw) : (rvs l).length = l.length * 4 := by
  induction l with
  | nil => rfl
  | cons r l ih =>
    show ([(.int .i64 r.x : Value), .int .i64 r.y, .int .i64 r.z, .int .i64 r.t] ++ rvs l).length = _
    rw [List.length_append, ih, List.length_cons]
    show 4 + l.length * 4 = (l.length + 1) * 4
    omega
theorem rvs_at (l : List Raw) : ∀ i, i < l.length → (rvs l)[i * 4]? = some (.int .i64 (sm l i).x) ∧ (rvs l)[i * 4 + 1]? = some (.int .i64 (sm l i).y) ∧ (rvs l)[i * 4 + 2]? = some (.int .i64 (sm l i).z) ∧ (rvs l)[i * 4 + 3]? = some (.int .i64 (sm l i).t) := by
  induction l with
  | nil => intro i hi; exact absurd hi (Nat.not_lt_zero _)
  | cons r l ih =>
    intro i hi
    have e : rvs (r :: l) = [(.int .i64 r.x : Value), .int .i64 r.y, .int .i64 r.z, .int .i64 r.t] ++ rvs l := rfl
    rw [e]
    match i, hi with
    | 0, _ => exact ⟨rfl, rfl, rfl, rfl⟩
    | i + 1, hi =>
      have h := ih i (by simpa using hi)
      have es : sm (r :: l) (i + 1) = sm l i := by simp [sm]
      rw [es]
      have k : ∀ j, ([(.int .i64 r.x : Value), .int .i64 r.y, .int .i64 r.z, .int .i64 r.t] ++ rvs l)[(i + 1) * 4 + j]? = (rvs l)[i * 4 + j]? := fun j => by
        rw [List.getElem?_append_right (by show 4 ≤ _; omega)]
        congr 1
        show (i + 1) * 4 + j - 4 = _
        omega
      have k0 := k 0
      rw [Nat.add_zero, Nat.add_zero] at k0
      rw [k0, k 1, k 2, k 3]
      exact h
theorem rdr_row {w : World} {B : Nat} {a : Option Addr} {c : Nat} {l : List Raw} (h : w.ownsRow B 72 4 (.slice a l.length c) l.length (rvs l)) : RdR w a l := fun i hi => by
  have h' := h
  rcases h.2 with ⟨_, e2⟩ | ⟨g, cap, cur, e1, _⟩
  · omega
  · simp only [Value.slice.injEq, true_and] at e1
    obtain ⟨rfl, rfl⟩ := e1
    obtain ⟨h0, h1, h2, h3⟩ := rvs_at l i hi
    refine ⟨g, 0, rfl, ?_⟩
    rw [Nat.zero_add]
    exact ⟨(h'.cellAt _ (by omega)).trans h0, (h'.cellAt _ (by omega)).trans h1, (h'.cellAt _ (by omega)).trans h2, (h'.cellAt _ (by omega)).trans h3⟩
set_option maxRecDepth 20000 in
set_option maxHeartbeats 4000000 in
theorem eqraws_any {l : List Raw} (a : Option Addr) (c : Nat) (a' : Option Addr) (c' : Nat) (w : World) (hu : RdR w a l) (hv : RdR w a' l) (hS : l.length ≤ 100000) :
    Calls Try.prog 21 #[.slice a l.length c, .slice a' l.length c'] w fun e w' => e = .returned (.bool true) ∧ Ext w w' := by
  have HA : Hid (RdR w a l) := hu
  have HB : Hid (RdR w a' l) := hv
  have HL : Hid (l.length ≤ 100000) := hS
  clear hu hv hS
  go_enter Try.func21, Try.ntmps21
  go_wp2_with fail
  go_loopw [5] (fun s5 wr => ∃ j : Nat, j ≤ l.length ∧ s5 = .int .i64 j ∧ Ext w wr) (fun s5 _ => l.length - (intOf s5).toNat)
  case atStart => exact ⟨0, Nat.zero_le _, rfl, Ext.refl _⟩
  case round =>
    obtain ⟨j, hj, rfl, hx⟩ := hrel
    by_cases hlt : j < l.length
    · have hjx : (j : Int) < (l.length : Int) := by omega
      obtain ⟨b1, o1, rfl, c0, c1, c2, c3⟩ := HA.out j hlt
      obtain ⟨b2, o2, rfl, d0, d1, d2, d3⟩ := HB.out j hlt
      have c0 := hx.keepc c0
      have c1 := hx.keepc c1
      have c2 := hx.keepc c2
      have c3 := hx.keepc c3
      have d0 := hx.keepc d0
      have d1 := hx.keepc d1
      have d2 := hx.keepc d2
      have d3 := hx.keepc d3
      have hL := HL.out
      generalize sm l j = r at *
      obtain ⟨x, y, z, t⟩ := r
      dsimp only at c0 c1 c2 c3 d0 d1 d2 d3
      have hs63 : (j : Int) + 1 ≤ 100000 := by omega
      have HS63 : Hid ((j : Int) + 1 ≤ 100000) := hs63
      clear hL hs63
      go_upto_region 6 with fail
      go_quiet (fail)
      have X : Hid (Ext w (wr.drewN nq)) := hx.trans (drewN_ext nq)
      have hj2 : (j : Int) ≤ 9223372036854775806 := by have := HS63.out; omega
      go_wp2_with fail
      go_roundw
      case measure => simp [intOf]; omega
      case rel => exact ⟨j + 1, by omega, by simp, X.out⟩
    · have hjx : ¬ (j : Int) < (l.length : Int) := by omega
      go_wp2_with fail
      go_ret
      exact ⟨rfl, hx⟩
/-- bytes and samples that grow side by side, both newer than w0 -/
structure SS (w0 wr : World) (D : List Int) (W : List Raw) (n : Nat) (bV wV : Value) : Prop where
  b : wr.ownsRow w0.heap.size Eb 1 bV n (bv D)
  s : wr.ownsRow w0.heap.size 72 4 wV W.length (rvs W)
  d : ∀ g, bV.ownBlock = some g → wV.ownBlock ≠ some g
  x : Ext w0 wr
theorem SS.ext {w0 wr w' : World} {D : List Int} {W : List Raw} {n : Nat} {bV wV : Value} (h : SS w0 wr D W n bV wV) (x : Ext wr w') : SS w0 w' D W n bV wV :=
  ⟨row_ext h.b x, row_ext h.s x, h.d, h.x.trans x⟩
/-- something newer is written -/
theorem SS.far {w0 w1 wr : World} {D : List Int} {W : List Raw} {n : Nat} {bV wV : Value} (h1 : SS w0 w1 D W n bV wV) (h : SS w0 wr D W n bV wV) {g : Nat} (hg : w1.heap.size ≤ g) (j : Nat) (u : Value) : SS w0 (wr.setCell ⟨g, j, none⟩ u) D W n bV wV := by
  have t : Tn (fun k => k = g) wr (wr.setCell ⟨g, j, none⟩ u) := (Tn.refl (fun k => k = g) wr).set (.inl rfl) _ _
  refine ⟨row_tn h.b t (fun k _ hk e => ?_), row_tn h.s t (fun k _ hk e => ?_), h.d, ?_⟩
  · have := (h1.b.lt k hk).2
    omega
  · have := (h1.s.lt k hk).2
    omega
  · exact h.x.new (Nat.le_trans h1.x.size hg) _ _
theorem SS.samples {w0 wr w' : World} {D : List Int} {W : List Raw} {n : Nat} {bV wV : Value} (h : SS w0 wr D W n bV wV) {r : Raw} {g cap : Nat} (ho : w'.ownsRow w0.heap.size 72 4 (.slice (some ⟨g, 0, none⟩) (W.length + 1) cap) (W.length + 1) (rvs W ++ [(.int .i64 r.x : Value), .int .i64 r.y, .int .i64 r.z, .int .i64 r.t])) (hg : wr.grownBy w' wV.ownBlock) (hb : wV.ownBlock = some g ∨ g = wr.heap.size) :
    SS w0 w' D (W ++ [r]) n bV (.slice (some ⟨g, 0, none⟩) (W.length + 1) cap) := by
  have t : Tn (fun k => wV.ownBlock = some k) wr w' := (Tn.refl _ _).grown hg (fun k e => .inl e)
  refine ⟨row_tn h.b t (fun k _ hk e => h.d k hk e), ?_, fun k hk e => ?_, row_grown hg h.s h.x (Nat.le_refl _)⟩
  · rw [rvs_snoc, List.length_append]
    exact ho
  · have e : g = k := by simpa [Value.ownBlock] using e
    subst e
    rcases hb with hb | hb
    · exact h.d _ hk hb
    · have := (h.b.lt _ hk).2
      omega
theorem SS.bytes {w0 wr w' : World} {D : List Int} {W : List Raw} {n : Nat} {bV wV : Value} (h : SS w0 wr D W n bV wV) {E : List Int} {m g cap : Nat} (ho : w'.ownsRow w0.heap.size Eb 1 (.slice (some ⟨g, 0, none⟩) (n + m) cap) (n + m) (bv D ++ bv E)) (hg : wr.grownBy w' bV.ownBlock) (hb : bV.ownBlock = some g ∨ g = wr.heap.size) :
    SS w0 w' (D ++ E) W (n + m) (.slice (some ⟨g, 0, none⟩) (n + m) cap) wV := by
  have t : Tn (fun k => bV.ownBlock = some k) wr w' := (Tn.refl _ _).grown hg (fun k e => .inl e)
  refine ⟨by rw [bv_app]; exact ho, row_tn h.s t (fun k _ hk e => h.d k e hk), fun k hk e => ?_, row_grown hg h.b h.x (Nat.le_refl _)⟩
  have e2 : g = k := by simpa [Value.ownBlock] using hk
  subst e2
  rcases hb with hb | hb
  · exact h.d _ hb e
  · have := (h.s.lt _ e).2
    omega
theorem bv_turn (b : B8) (q : Nat) (hq : q < 8) (m : Int) : (bv b.l).set q (.int .u8 (bits BinOp.xor IntKind.u8 (b.at q) m)) = bv (turnB b q m).l := by
  match q, hq with
  | 0, _ | 1, _ | 2, _ | 3, _ | 4, _ | 5, _ | 6, _ | 7, _ => rfl
  | q + 8, h => omega
theorem bv_news {w : World} {B g c : Nat} {b : B8} (h : w.ownsRow B Eb 1 (.slice (some ⟨g, 0, none⟩) 8 c) 8 (bv b.l)) : ∀ j u, (bv b.l)[j]? = some u → w.cell? ((⟨g, 0, none⟩ : Addr).add j) = some u := by
  intro j u hu
  have hj : j < 8 := by
    have := (List.getElem?_eq_some_iff.1 hu).1
    simpa [bv, B8.l] using this
  rw [← hu, ← h.cellAt j (by omega)]
  congr 1
  unfold Addr.add
  split
  · rename_i e; subst e; rfl
  · simp
theorem row_byte {w : World} {B g c : Nat} {b : B8} (h : w.ownsRow B Eb 1 (.slice (some ⟨g, 0, none⟩) 8 c) 8 (bv b.l)) {j : Nat} (hj : j < 8) : w.cell? ⟨g, j, none⟩ = some (.int .u8 (b.at j)) := by
  rw [h.cellAt j (by omega)]
  match j, hj with
  | 0, _ | 1, _ | 2, _ | 3, _ | 4, _ | 5, _ | 6, _ | 7, _ => rfl
  | j + 8, h => omega
end Go.Proofs.Ytdfhhfpfnkjbnaa
