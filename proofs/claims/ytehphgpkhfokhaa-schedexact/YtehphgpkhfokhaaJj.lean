/- wheel: push. -/
import Derived.Test.YtehphgpkhfokhaaJi
namespace Go.Proofs.Ytehphgpkhfokhaa
open Go.RowKit
theorem Try.infoTm : (Try.prog.info? Et).map (fun i => (i.zero, i.size, i.bytes)) = some (some (.agg #[.int .i64 0, .int .i64 0, .int .i64 0]), 3, 24) := by kernel_rfl
theorem info_parts {P : Program} {e : TypeId} {z : Value} {n m : Nat} (h : (P.info? e).map (fun i => (i.zero, i.size, i.bytes)) = some (some z, n, m)) : ∃ i, P.info? e = some i ∧ i.zero = some z ∧ i.size = n ∧ i.bytes = m := by
  cases hp : P.info? e with
  | none => rw [hp] at h; simp at h
  | some i =>
    rw [hp] at h
    simp only [Option.map_some, Option.some.injEq, Prod.mk.injEq] at h
    exact ⟨i, rfl, h.1, h.2.1, h.2.2⟩
theorem three_new (w : World) (u v x : Value) (T : TypeId) : ∀ j y, [u, v, x][j]? = some y → ((w.alloc (.cells #[u, v, x] T)).drew).cell? ((⟨w.heap.size, 0, none⟩ : Addr).add j) = some y := by
  intro j y h
  match j with
  | 0 => simp at h; subst h; simp [go_sem, Addr.add]
  | 1 => simp at h; subst h; simp [go_sem, Addr.add]
  | 2 => simp at h; subst h; simp [go_sem, Addr.add]
  | j + 3 => simp at h
/-- a slice that was appended to: the wheel's things -/
theorem HS.app {w w1 : World} {p g cap : Nat} {v : Value} {xs : List Tm} {T : Int} {x : Tm} (h : HS w p v xs T) (hg : w.grownBy w1 v.ownBlock) (ho : w1.ownsRow 0 Et 3 (.slice (some ⟨g, 0, none⟩) (xs.length + 1) cap) (xs.length + 1) (flat xs ++ [.int .i64 x.1, .int .i64 x.2.1, .int .i64 x.2.2])) (hgb : v.ownBlock = some g ∨ g = w.heap.size) :
    HS (w1.setCell ⟨p, 1, none⟩ (.slice (some ⟨g, 0, none⟩) (xs.length + 1) cap)) p (.slice (some ⟨g, 0, none⟩) (xs ++ [x]).length cap) (xs ++ [x]) T := by
  obtain ⟨⟨a, b⟩, ⟨c, d⟩, e, f⟩ := h
  have lp : p < w.heap.size := World.block_lt_of_cell? w ⟨p, 1, none⟩ a
  have hne : g ≠ p := by
    rcases hgb with k | k
    · intro e; exact f (by rw [k, e])
    · omega
  have hp : w1.heap[p]? = w.heap[p]? := hg.block p lp (fun k => f k.symm)
  have a1 : w1.cell? ⟨p, 1, none⟩ = some v := by rw [World.cell?_of_block (w := w) (w' := w1) (a := ⟨p, 1, none⟩) hp]; exact a
  have b1 : w1.frozen? ⟨p, 1, none⟩ = false := by rw [World.frozen?_of_block (w := w) (w' := w1) (a := ⟨p, 1, none⟩) hp]; exact b
  have c1 : w1.cell? ⟨p, 2, none⟩ = some (.int .i64 T) := by rw [World.cell?_of_block (w := w) (w' := w1) (a := ⟨p, 2, none⟩) hp]; exact c
  have d1 : w1.frozen? ⟨p, 2, none⟩ = false := by rw [World.frozen?_of_block (w := w) (w' := w1) (a := ⟨p, 2, none⟩) hp]; exact d
  have hl : (xs ++ [x]).length = xs.length + 1 := by simp
  rw [hl]
  refine ⟨⟨by simp [go_sem, a1], by simp [go_sem, b1]⟩, ⟨by simp [go_sem, c1], by simp [go_sem, d1]⟩, ⟨by rw [flat_len, hl], ?_⟩, fun k => hne (by simpa [Value.ownBlock] using k)⟩
  rw [flat_app, hl]
  rcases ho.2 with ⟨e1, _⟩ | ⟨g', cap', cur, hv, hb, hg2, hc, hc2, hc3, hc4⟩
  · cases e1
  · refine .inr ⟨g', cap', cur, hv, hb, ?_, hc, hc2, hc3, hc4⟩
    simp only [Value.slice.injEq, Option.some.injEq, Addr.mk.injEq, and_true, true_and] at hv
    obtain ⟨rfl, rfl⟩ := hv
    rw [show (w1.setCell ⟨p, 1, none⟩ (.slice (some ⟨g, 0, none⟩) (xs.length + 1) cap)).heap[g]? = w1.heap[g]? from heap_setCell_other w1 ⟨p, 1, none⟩ g _ hne]; exact hg2
theorem grown_keep {X w1 : World} {p : Nat} {u v : Value} (h : X.cell? ⟨p, 1, none⟩ = some u) (hf : X.frozen? ⟨p, 1, none⟩ = false) (hg : X.grownBy w1 v.ownBlock) (hv : v.ownBlock ≠ some p) : w1.cell? ⟨p, 1, none⟩ = some u ∧ w1.frozen? ⟨p, 1, none⟩ = false := by
  have hp : w1.heap[p]? = X.heap[p]? := hg.block p (World.block_lt_of_cell? X ⟨p, 1, none⟩ h) (fun k => hv k.symm)
  exact ⟨by rw [World.cell?_of_block (w := X) (w' := w1) (a := ⟨p, 1, none⟩) hp]; exact h, by rw [World.frozen?_of_block (w := X) (w' := w1) (a := ⟨p, 1, none⟩) hp]; exact hf⟩
set_option maxRecDepth 20000 in
set_option maxHeartbeats 8000000 in
theorem push_any {p : Nat} {v : Value} {xs : List Tm} {T : Int} (x : Tm) (w : World) (h : HS w p v xs T) (hm : xs.length < 1000000) (hh : Heap (gt xs) xs.length) :
    Calls Try.prog 53 #[.pointer (some ⟨p, 1, none⟩), tv x] w fun e w' => (∃ u, e = .returned u) ∧ ∃ ys g cap, ys.Perm (xs ++ [x]) ∧ Heap (gt ys) ys.length ∧ HS w' p (.slice (some ⟨g, 0, none⟩) ys.length cap) ys T ∧ Turn (own p v) w w' ∧ (v.ownBlock = some g ∨ w.heap.size ≤ g) := by
  obtain ⟨x1, x2, x3⟩ := x
  unfold tv
  simp only
  obtain ⟨i0, hi, hz0, hz1, hz2⟩ := info_parts Try.infoTm
  have hx0 : Ext w (w.alloc (.cells #[.int .i64 x1, .int .i64 x2, .int .i64 x3] Et)) := (Ext.refl w).alloc _
  have h0 := h.ext hx0
  obtain ⟨⟨c0, c1, c2⟩, _, _, _⟩ := h3_at (w := w) (x1, x2, x3) (T := Et) rfl
  simp only at c0 c1 c2
  have HB : Hid ((w.alloc (.cells #[.int .i64 x1, .int .i64 x2, .int .i64 x3] Et)).heap.size = w.heap.size + 1) := by show _ = _; simp
  have hp := h0.1.1
  have fp := h0.1.2
  have hown := h0.2.2.1
  go_enter Try.func53, Try.ntmps53
  go_upto_region 1 with fail
  generalize w.alloc (.cells #[.int .i64 x1, .int .i64 x2, .int .i64 x3] Et) = W at *
  have lp : p < W.heap.size := World.block_lt_of_cell? W ⟨p, 1, none⟩ hp
  have np : p ≠ W.heap.size := Nat.ne_of_lt lp
  have np' : W.heap.size ≠ p := Ne.symm np
  have hvp := h0.2.2.2
  go_region_law (refine step_append_lies _ rfl (.tmp 8) (.tmp 10) 63 rfl 0 Et i0 (.agg #[.int .i64 0, .int .i64 0, .int .i64 0]) 3 24 Try.underlying63 hi hz0 hz1 hz2 rfl (by decide) _ xs.length (flat xs) rfl (by exact hown.alloc _) ⟨W.heap.size, 0, none⟩ 1 1 [.int .i64 x1, .int .i64 x2, .int .i64 x3] rfl rfl (by exact three_new W _ _ _ _) (by simp [Value.oneCell']) (by decide) (by unfold maxLen; omega) (by omega) (Nat.zero_le _) (W.heap.size + 1) (by simp) ?_; intro g cap' w1 hown' hg' hgb hgl; obtain ⟨hw1, fw1⟩ := grown_keep (p := p) (u := v) (by exact ((Ext.refl W).alloc _).keepc hp) (by exact ((Ext.refl W).alloc _).keepf hp fp) hg' hvp)
  all_goals
    have hg2 : ((W.alloc (.cells #[.int .i64 x1, .int .i64 x2, .int .i64 x3] Et)).drew).grownBy w1 v.ownBlock := hg'
    have hgb2 : v.ownBlock = some g ∨ g = W.heap.size + 1 := hgb
    clear hg' hgb
    have h1 := (h0.ext (((Ext.refl W).alloc _).drew)).app (x := (x1, x2, x3)) hg2 hown' (hgb2.imp id (fun e => by rw [e]; simp))
    have t1 : Turn (own p v) w (w1.setCell ⟨p, 1, none⟩ (.slice (some ⟨g, 0, none⟩) (xs.length + 1) cap')) := ((Turn.of_ext (hx0.trans (((Ext.refl W).alloc _).drew))).grown hg2 (fun k hk => .inl (fun _ => .inr hk))).set (.inl ⟨rfl, .inl rfl⟩) _
    have HGB : Hid (v.ownBlock = some g ∨ w.heap.size ≤ g) := hgb2.imp id (fun e => by have := HB.out; omega)
    have hl : (xs ++ [(x1, x2, x3)]).length = xs.length + 1 := by simp
    have H1 : Hid (HS (w1.setCell ⟨p, 1, none⟩ (.slice (some ⟨g, 0, none⟩) (xs.length + 1) cap')) p (.slice (some ⟨g, 0, none⟩) (xs ++ [(x1, x2, x3)]).length cap') (xs ++ [(x1, x2, x3)]) T) := h1
    have HT1 : Hid (Turn (own p v) w (w1.setCell ⟨p, 1, none⟩ (.slice (some ⟨g, 0, none⟩) (xs.length + 1) cap'))) := t1
    have hpx := h1.1.1
    rw [hl] at hpx
    have HR := rise_any xs.length _ h1 (by omega) (by omega) (push_hole hh (x1, x2, x3))
    clear hown' hg2 hgb2 hgl hw1 fw1 h1 t1 h0 hp fp hown np np' lp hvp c0 c1 c2
    generalize w1.setCell ⟨p, 1, none⟩ (.slice (some ⟨g, 0, none⟩) (xs.length + 1) cap') = W2 at *
    go_wp2_with (go_at_call 54; refine HR.mono ?_; rintro e w5 ⟨⟨v5, rfl⟩, ys, h5, h6⟩)
    go_end0
    refine ⟨⟨_, rfl⟩, ys, g, cap', h5.2.1, ?_, h5.2.2.1, HT1.out.trans h5.2.2.2 (fun i hi j o => ?_), HGB.out⟩
    · have := h5.1
      rw [hl] at this
      rw [this] at h6 ⊢
      exact down_last h6
    · rcases o with o | o
      · exact .inl o
      · simp only [Value.ownBlock, Option.some.injEq] at o
        subst o
        rcases HGB.out with k | k
        · exact .inr k
        · omega
end Go.Proofs.Ytehphgpkhfokhaa
