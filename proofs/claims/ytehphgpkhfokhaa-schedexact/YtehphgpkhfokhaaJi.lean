/- wheel: drop. -/
import Derived.Test.YtehphgpkhfokhaaJh
namespace Go.Proofs.Ytehphgpkhfokhaa
open Go.RowKit
/-- a variable of a timer, which may be written -/
def H3 (w : World) (b : Nat) (t : Tm) : Prop :=
  (w.cell? ⟨b, 0, none⟩ = some (.int .i64 t.1) ∧ w.cell? ⟨b, 1, none⟩ = some (.int .i64 t.2.1) ∧ w.cell? ⟨b, 2, none⟩ = some (.int .i64 t.2.2)) ∧ w.frozen? ⟨b, 0, none⟩ = false ∧ w.frozen? ⟨b, 1, none⟩ = false ∧ w.frozen? ⟨b, 2, none⟩ = false
theorem H3.turn {o : Nat → Nat → Prop} {w w' : World} {b : Nat} {t : Tm} (h : H3 w b t) (x : Turn o w w') (hb : ∀ j, ¬ o b j) : H3 w' b t :=
  ⟨⟨x.keepc (hb _) h.1.1, x.keepc (hb _) h.1.2.1, x.keepc (hb _) h.1.2.2⟩, x.keepf (hb _) h.1.1 h.2.1, x.keepf (hb _) h.1.2.1 h.2.2.1, x.keepf (hb _) h.1.2.2 h.2.2.2⟩
theorem H3.ext {w w' : World} {b : Nat} {t : Tm} (h : H3 w b t) (x : Ext w w') : H3 w' b t :=
  ⟨⟨x.keepc h.1.1, x.keepc h.1.2.1, x.keepc h.1.2.2⟩, x.keepf h.1.1 h.2.1, x.keepf h.1.2.1 h.2.2.1, x.keepf h.1.2.2 h.2.2.2⟩
theorem H3.lt {w : World} {b : Nat} {t : Tm} (h : H3 w b t) : b < w.heap.size := World.block_lt_of_cell? w ⟨b, 0, none⟩ h.1.1
theorem h3_at {w : World} {b : Nat} (t : Tm) {T : TypeId} (h : w.heap.size = b) : H3 (w.alloc (.cells #[.int .i64 t.1, .int .i64 t.2.1, .int .i64 t.2.2] T)) b t := by
  subst h
  refine ⟨⟨?_, ?_, ?_⟩, ?_, ?_, ?_⟩ <;> simp [go_sem]
theorem H3.set {w : World} {b : Nat} {s : Tm} (h : H3 w b s) (t : Tm) : H3 (((w.setCell ⟨b, 0, none⟩ (.int .i64 t.1)).setCell ⟨b, 1, none⟩ (.int .i64 t.2.1)).setCell ⟨b, 2, none⟩ (.int .i64 t.2.2)) b t := by
  obtain ⟨⟨h0, h1, h2⟩, f0, f1, f2⟩ := h
  refine ⟨⟨?_, ?_, ?_⟩, ?_, ?_, ?_⟩ <;> simp [go_sem, h0, h1, h2, f0, f1, f2]
theorem HS.cut {w : World} {p g cap m : Nat} {xs : List Tm} {T : Int} (h : HS w p (.slice (some ⟨g, 0, none⟩) xs.length cap) xs T) (hm : m ≤ xs.length) : HS (w.setCell ⟨p, 1, none⟩ (.slice (some ⟨g, 0, none⟩) m cap)) p (.slice (some ⟨g, 0, none⟩) (xs.take m).length cap) (xs.take m) T := by
  obtain ⟨⟨a, b⟩, ⟨c, d⟩, e, f⟩ := h
  have hne : g ≠ p := fun e => f (by rw [e]; rfl)
  have hl : (xs.take m).length = m := by simp [hm]
  rw [hl]
  refine ⟨⟨by simp [go_sem, a], by simp [go_sem, b]⟩, ⟨by simp [go_sem, c], by simp [go_sem, d]⟩, ⟨by rw [flat_len, hl], ?_⟩, f⟩
  rcases e.2 with ⟨e1, _⟩ | ⟨g', cap', cur, hv, hb, hg, hc, hc2, hc3, hc4⟩
  · cases e1
  · simp only [Value.slice.injEq, Option.some.injEq, Addr.mk.injEq, and_true, true_and] at hv
    obtain ⟨rfl, rfl⟩ := hv
    refine .inr ⟨g, cap, cur, by rw [hl], hb, ?_, by omega, hc2, hc3, ?_⟩
    · rw [show (w.setCell ⟨p, 1, none⟩ (.slice (some ⟨g, 0, none⟩) m cap)).heap[g]? = w.heap[g]? from heap_setCell_other w ⟨p, 1, none⟩ g _ hne]; exact hg
    · rw [hl, flat_take, ← hc4, List.take_take, Nat.min_eq_left (by omega)]
theorem HS.new3 {w : World} {p g n cap b : Nat} {xs : List Tm} {T : Int} (h : HS w p (.slice (some ⟨g, 0, none⟩) n cap) xs T) (h1 : p ≠ b) (h2 : g ≠ b) (u0 u1 u2 : Value) : HS (((w.setCell ⟨b, 0, none⟩ u0).setCell ⟨b, 1, none⟩ u1).setCell ⟨b, 2, none⟩ u2) p (.slice (some ⟨g, 0, none⟩) n cap) xs T :=
  h.far (o := fun k _ => k = b) ((((Turn.refl (fun k _ => k = b) w).set (q := b) (o := 0) rfl u0).set (q := b) (o := 1) rfl u1).set (q := b) (o := 2) rfl u2) ⟨h1, h1⟩ (fun k _ hk => by simp only [Value.ownBlock, Option.some.injEq] at hk; omega)
theorem dl_put (xs : List Tm) (i : Nat) (t : Tm) : ((xs.set i (gt xs (xs.length - 1))).set (xs.length - 1) t).take (xs.length - 1) = dl xs i := by
  unfold dl
  rw [List.take_set_of_le (by omega)]
set_option maxRecDepth 20000 in
set_option maxHeartbeats 8000000 in
theorem drop_any {p g cap : Nat} {xs : List Tm} {T : Int} (i : Nat) (w : World) (h : HS w p (.slice (some ⟨g, 0, none⟩) xs.length cap) xs T) (hi : i < xs.length) (hm : xs.length ≤ 1000000) (hh : Heap (gt xs) xs.length) :
    Calls Try.prog 50 #[.pointer (some ⟨p, 1, none⟩), .int .i64 i] w fun e w' => e = .returned (tv (gt xs i)) ∧ ∃ ys, ys.Perm (dl xs i) ∧ Heap (gt ys) ys.length ∧ HS w' p (.slice (some ⟨g, 0, none⟩) ys.length cap) ys T ∧ Turn (own p (.slice (some ⟨g, 0, none⟩) xs.length cap)) w w' := by
  have hx0 : Ext w ((w.alloc (.cells #[.int .i64 0, .int .i64 0, .int .i64 0] Et)).alloc (.cells #[.int .i64 0, .int .i64 0, .int .i64 0] Et)) := ((Ext.refl w).alloc _).alloc _
  have r0 : Hid (H3 ((w.alloc (.cells #[.int .i64 0, .int .i64 0, .int .i64 0] Et)).alloc (.cells #[.int .i64 0, .int .i64 0, .int .i64 0] Et)) w.heap.size (0, 0, 0)) := (h3_at (0, 0, 0) rfl).ext ((Ext.refl _).alloc _)
  have z0 : Hid (H3 ((w.alloc (.cells #[.int .i64 0, .int .i64 0, .int .i64 0] Et)).alloc (.cells #[.int .i64 0, .int .i64 0, .int .i64 0] Et)) (w.heap.size + 1) (0, 0, 0)) := h3_at (0, 0, 0) (by simp)
  have h0 := h.ext hx0
  have HW : Hid (((w.alloc (.cells #[.int .i64 0, .int .i64 0, .int .i64 0] Et)).alloc (.cells #[.int .i64 0, .int .i64 0, .int .i64 0] Et)).heap.size = w.heap.size + 2) := by show _ = _; simp
  go_enter Try.func50, Try.ntmps50
  go_upto_region 2 with fail
  generalize ((w.alloc (.cells #[.int .i64 0, .int .i64 0, .int .i64 0] Et)).alloc (.cells #[.int .i64 0, .int .i64 0, .int .i64 0] Et)) = W0 at *
  obtain ⟨i0, i1, i2⟩ := h0.cells hi
  have hp := h0.1.1
  have hi' : (i : Int) < (xs.length : Int) := by omega
  have np : p ≠ W0.heap.size := Nat.ne_of_lt (World.block_lt_of_cell? W0 ⟨p, 1, none⟩ hp)
  have ng : g ≠ W0.heap.size := Nat.ne_of_lt (World.block_lt_of_cell? W0 ⟨g, i * 3, none⟩ i0)
  have np' : W0.heap.size ≠ p := Ne.symm np
  have ng' : W0.heap.size ≠ g := Ne.symm ng
  have lp : p < W0.heap.size := World.block_lt_of_cell? W0 ⟨p, 1, none⟩ hp
  have lg : g < W0.heap.size := World.block_lt_of_cell? W0 ⟨g, i * 3, none⟩ i0
  go_region
  have e1 : ((xs.length : Int) - 1) = ((xs.length - 1 : Nat) : Int) := by omega
  rw [e1]
  have x1 : Ext W0 ((W0.alloc (.cells #[.int .i64 (gt xs i).1, .int .i64 (gt xs i).2.1, .int .i64 (gt xs i).2.2] Et)).drew) := ((Ext.refl W0).alloc _).drew
  have h1 := h0.ext x1
  have HX1 : Hid (H3 ((W0.alloc (.cells #[.int .i64 (gt xs i).1, .int .i64 (gt xs i).2.1, .int .i64 (gt xs i).2.2] Et)).drew) (w.heap.size + 2) (gt xs i)) := h3_at (gt xs i) HW.out
  have HR1 : Hid (H3 ((W0.alloc (.cells #[.int .i64 (gt xs i).1, .int .i64 (gt xs i).2.1, .int .i64 (gt xs i).2.2] Et)).drew) w.heap.size (0, 0, 0)) := r0.out.ext x1
  have HZ1 : Hid (H3 ((W0.alloc (.cells #[.int .i64 (gt xs i).1, .int .i64 (gt xs i).2.1, .int .i64 (gt xs i).2.2] Et)).drew) (w.heap.size + 1) (0, 0, 0)) := z0.out.ext x1
  have HE1 : Hid (Ext w ((W0.alloc (.cells #[.int .i64 (gt xs i).1, .int .i64 (gt xs i).2.1, .int .i64 (gt xs i).2.2] Et)).drew)) := hx0.trans x1
  have hW2 : W0.heap.size = w.heap.size + 2 := HW.out
  rw [hW2]
  have lpw : p < w.heap.size := World.block_lt_of_cell? w ⟨p, 1, none⟩ h.1.1
  have lgw : g < w.heap.size := by obtain ⟨a0, _, _⟩ := h.cells hi; exact World.block_lt_of_cell? w ⟨g, i * 3, none⟩ a0
  clear np ng np' ng' lp lg hp i0 i1 i2 x1 hW2 h0 hx0 z0 r0 HW h
  generalize (W0.alloc (.cells #[.int .i64 (gt xs i).1, .int .i64 (gt xs i).2.1, .int .i64 (gt xs i).2.2] Et)).drew = W1 at *
  have hl : xs.length - 1 < xs.length := by omega
  have HO : Hid (∀ j, own p (.slice (some ⟨g, 0, none⟩) xs.length cap) g j) := fun _ => .inr rfl
  have HOp : Hid (own p (.slice (some ⟨g, 0, none⟩) xs.length cap) p 1) := .inl ⟨rfl, .inl rfl⟩
  have HD : Hid (xs.length - 1 + 1 = xs.length) := by show _ = _; omega
  clear e1
  -- the last one goes to place i
  obtain ⟨l0, l1, l2⟩ := h1.cells hl
  obtain ⟨i0, i1, i2⟩ := h1.cells hi
  have f0 := h1.frozen (i * 3)
  have f1 := h1.frozen (i * 3 + 1)
  have f2 := h1.frozen (i * 3 + 2)
  have hp := h1.1.1
  have hl' : ((xs.length - 1 : Nat) : Int) < (xs.length : Int) := by omega
  have h2 := h1.put i (gt xs (xs.length - 1))
  have T2 : Hid (Turn (own p (.slice (some ⟨g, 0, none⟩) xs.length cap)) W1 (((W1.setCell ⟨g, i * 3, none⟩ (.int .i64 (gt xs (xs.length - 1)).1)).setCell ⟨g, i * 3 + 1, none⟩ (.int .i64 (gt xs (xs.length - 1)).2.1)).setCell ⟨g, i * 3 + 2, none⟩ (.int .i64 (gt xs (xs.length - 1)).2.2)).drew) := ((((Turn.refl _ W1).set (HO.out _) _).set (HO.out _) _).set (HO.out _) _).drew
  have H2 : Hid (HS (((W1.setCell ⟨g, i * 3, none⟩ (.int .i64 (gt xs (xs.length - 1)).1)).setCell ⟨g, i * 3 + 1, none⟩ (.int .i64 (gt xs (xs.length - 1)).2.1)).setCell ⟨g, i * 3 + 2, none⟩ (.int .i64 (gt xs (xs.length - 1)).2.2)).drew p (.slice (some ⟨g, 0, none⟩) (xs.set i (gt xs (xs.length - 1))).length cap) (xs.set i (gt xs (xs.length - 1))) T) := h2.drew
  clear h1 h2
  go_upto_region 3 with fail
  go_region
  generalize (((W1.setCell ⟨g, i * 3, none⟩ (.int .i64 (gt xs (xs.length - 1)).1)).setCell ⟨g, i * 3 + 1, none⟩ (.int .i64 (gt xs (xs.length - 1)).2.1)).setCell ⟨g, i * 3 + 2, none⟩ (.int .i64 (gt xs (xs.length - 1)).2.2)).drew = W2 at *
  clear l0 l1 l2 i0 i1 i2 f0 f1 f2 hp
  have nv : Hid ((∀ j, ¬ own p (.slice (some ⟨g, 0, none⟩) xs.length cap) w.heap.size j) ∧ (∀ j, ¬ own p (.slice (some ⟨g, 0, none⟩) xs.length cap) (w.heap.size + 1) j) ∧ ∀ j, ¬ own p (.slice (some ⟨g, 0, none⟩) xs.length cap) (w.heap.size + 2) j) := by
    show _ ∧ _ ∧ _
    unfold own
    simp only [Value.ownBlock, Option.some.injEq]
    refine ⟨fun j => ?_, fun j => ?_, fun j => ?_⟩ <;> omega
  have h2 := H2.out
  rw [List.length_set] at h2
  obtain ⟨⟨zc0, zc1, zc2⟩, _, _, _⟩ := HZ1.out.turn T2.out nv.out.2.1
  have hl2 : xs.length - 1 < (xs.set i (gt xs (xs.length - 1))).length := by rw [List.length_set]; exact hl
  obtain ⟨l0, l1, l2⟩ := H2.out.cells hl2
  have f0 := H2.out.frozen ((xs.length - 1) * 3)
  have f1 := H2.out.frozen ((xs.length - 1) * 3 + 1)
  have f2 := H2.out.frozen ((xs.length - 1) * 3 + 2)
  have hp := h2.1.1
  have pg : g ≠ p := fun e => h2.2.2.2 (by rw [e]; rfl)
  have pg' : p ≠ g := Ne.symm pg
  have h3 := H2.out.put (xs.length - 1) (0, 0, 0)
  have h4 := h3.cut (m := xs.length - 1) (by simp)
  rw [dl_put] at h4
  have T3 : Hid (∀ v, Turn (own p (.slice (some ⟨g, 0, none⟩) xs.length cap)) w (((((W2.setCell ⟨g, (xs.length - 1) * 3, none⟩ (.int .i64 0)).setCell ⟨g, (xs.length - 1) * 3 + 1, none⟩ (.int .i64 0)).setCell ⟨g, (xs.length - 1) * 3 + 2, none⟩ (.int .i64 0))).setCell ⟨p, 1, none⟩ v).drew) := fun v => (((((((Turn.of_ext HE1.out).trans T2.out (fun _ _ _ o => o)).set (HO.out _) _).set (HO.out _) _).set (HO.out _) _)).set HOp.out _).drew
  have T3' : Hid (∀ v, Turn (own p (.slice (some ⟨g, 0, none⟩) xs.length cap)) W1 (((((W2.setCell ⟨g, (xs.length - 1) * 3, none⟩ (.int .i64 0)).setCell ⟨g, (xs.length - 1) * 3 + 1, none⟩ (.int .i64 0)).setCell ⟨g, (xs.length - 1) * 3 + 2, none⟩ (.int .i64 0))).setCell ⟨p, 1, none⟩ v).drew) := fun v => (((((T2.out.set (HO.out _) _).set (HO.out _) _).set (HO.out _) _)).set HOp.out _).drew
  have H4 : Hid (HS (((((W2.setCell ⟨g, (xs.length - 1) * 3, none⟩ (.int .i64 0)).setCell ⟨g, (xs.length - 1) * 3 + 1, none⟩ (.int .i64 0)).setCell ⟨g, (xs.length - 1) * 3 + 2, none⟩ (.int .i64 0))).setCell ⟨p, 1, none⟩ (.slice (some ⟨g, 0, none⟩) (xs.length - 1) cap)).drew p (.slice (some ⟨g, 0, none⟩) (dl xs i).length cap) (dl xs i) T) := h4.drew
  have fp := h2.1.2
  have hcap : xs.length ≤ cap := by
    obtain ⟨g', c', e, hc, _⟩ := h2.form (by rw [List.length_set]; omega)
    simp only [Value.slice.injEq, Option.some.injEq, Addr.mk.injEq, and_true] at e
    rw [e.2.2]; simpa using hc
  clear h2 h3 h4
  generalize gt (xs.set i (gt xs (xs.length - 1))) (xs.length - 1) = tl at *
  go_upto_region 4 with fail
  go_region
  go_upto_region 6 with fail
  have T4 := T3.out (.slice (some ⟨g, 0, none⟩) (xs.length - 1) cap)
  have T4' := T3'.out (.slice (some ⟨g, 0, none⟩) (xs.length - 1) cap)
  clear zc0 zc1 zc2 l0 l1 l2 f0 f1 f2 hp fp T3 T3' hl2 HZ1 H2 T2
  have HT4 : Hid (Turn (own p (.slice (some ⟨g, 0, none⟩) xs.length cap)) w _) := T4
  have HX4 : Hid (H3 _ (w.heap.size + 2) (gt xs i)) := HX1.out.turn T4' nv.out.2.2
  have HR4 : Hid (H3 _ w.heap.size (0, 0, 0)) := HR1.out.turn T4' nv.out.1
  clear T4 T4' HX1 HR1
  generalize (((((W2.setCell ⟨g, (xs.length - 1) * 3, none⟩ (.int .i64 0)).setCell ⟨g, (xs.length - 1) * 3 + 1, none⟩ (.int .i64 0)).setCell ⟨g, (xs.length - 1) * 3 + 2, none⟩ (.int .i64 0))).setCell ⟨p, 1, none⟩ (.slice (some ⟨g, 0, none⟩) (xs.length - 1) cap)).drew = W4 at *
  by_cases hlast : i < xs.length - 1
  · have hlx : (i : Int) < ((xs.length - 1 : Nat) : Int) := by omega
    have hdl : (dl xs i).length = xs.length - 1 := dl_len xs i
    have HRi := rise_any i W4 H4.out (by omega) (by omega) (dl_hole hh hlast)
    have HSi : Hid (∀ ys w1, Same W4 w1 p g cap (dl xs i) ys T ∧ Down (gt ys) ys.length i → Calls Try.prog 55 #[.pointer (some ⟨p, 1, none⟩), .int .i64 i] w1 fun e w' => (∃ v, e = .returned v) ∧ ∃ zs, Same W4 w' p g cap (dl xs i) zs T ∧ Heap (gt zs) zs.length) := fun ys w1 h1 => (sink_any i w1 h1.1.2.2.1 (by rw [h1.1.1]; omega) (by rw [h1.1.1]; omega) h1.2).mono fun _ _ ⟨he, zs, hz1, hz2⟩ => ⟨he, zs, h1.1.trans hz1, hz2⟩
    go_upto_region 9 with (first | (go_at_call 54; refine HRi.mono ?_; rintro e w5 ⟨⟨v5, rfl⟩, ys, h5⟩) | (go_at_call 55; refine (HSi.out _ _ h5).mono ?_; rintro e w6 ⟨⟨v6, rfl⟩, zs, h6, hz⟩))
    have hX6 := HX4.out.turn h6.2.2.2 nv.out.2.2
    have hR6 := HR4.out.turn h6.2.2.2 nv.out.1
    obtain ⟨⟨q0, q1, q2⟩, _, _, _⟩ := hX6
    obtain ⟨⟨r0, r1, r2⟩, rf0, rf1, rf2⟩ := id hR6
    have hR7 := hR6.set (gt xs i)
    have hs6 : Turn (own p (.slice (some ⟨g, 0, none⟩) xs.length cap)) w w6 := HT4.out.trans h6.2.2.2 (fun _ _ _ o => o)
    have HF : Hid (HS (((w6.setCell ⟨w.heap.size, 0, none⟩ (.int .i64 (gt xs i).1)).setCell ⟨w.heap.size, 1, none⟩ (.int .i64 (gt xs i).2.1)).setCell ⟨w.heap.size, 2, none⟩ (.int .i64 (gt xs i).2.2)) p (.slice (some ⟨g, 0, none⟩) zs.length cap) zs T ∧ Turn (own p (.slice (some ⟨g, 0, none⟩) xs.length cap)) w (((w6.setCell ⟨w.heap.size, 0, none⟩ (.int .i64 (gt xs i).1)).setCell ⟨w.heap.size, 1, none⟩ (.int .i64 (gt xs i).2.1)).setCell ⟨w.heap.size, 2, none⟩ (.int .i64 (gt xs i).2.2))) := by
      refine ⟨h6.2.2.1.new3 (by omega) (by omega) _ _ _, ((hs6.new (Nat.le_refl _) _ _).new (Nat.le_refl _) _ _).new (Nat.le_refl _) _ _⟩
    have HP6 : Hid (zs.Perm (dl xs i)) := h6.2.1
    clear h5 h6 hs6 hR6
    go_wp2_with fail
    exact bodyPost_ret (v := tv (gt xs i)) (by simp [results, Try.results50, go_sem, hR7.1.1, hR7.1.2.1, hR7.1.2.2, tv]) rfl ⟨rfl, zs, HP6.out, hz, HF.out.1, HF.out.2⟩
  · have hlx : ¬ (i : Int) < ((xs.length - 1 : Nat) : Int) := by omega
    go_upto_region 9 with fail
    obtain ⟨⟨q0, q1, q2⟩, _, _, _⟩ := HX4.out
    obtain ⟨⟨r0, r1, r2⟩, rf0, rf1, rf2⟩ := HR4.out
    have hR7 := HR4.out.set (gt xs i)
    have HF : Hid (HS (((W4.setCell ⟨w.heap.size, 0, none⟩ (.int .i64 (gt xs i).1)).setCell ⟨w.heap.size, 1, none⟩ (.int .i64 (gt xs i).2.1)).setCell ⟨w.heap.size, 2, none⟩ (.int .i64 (gt xs i).2.2)) p (.slice (some ⟨g, 0, none⟩) (dl xs i).length cap) (dl xs i) T ∧ Turn (own p (.slice (some ⟨g, 0, none⟩) xs.length cap)) w (((W4.setCell ⟨w.heap.size, 0, none⟩ (.int .i64 (gt xs i).1)).setCell ⟨w.heap.size, 1, none⟩ (.int .i64 (gt xs i).2.1)).setCell ⟨w.heap.size, 2, none⟩ (.int .i64 (gt xs i).2.2))) := by
      refine ⟨H4.out.new3 (by omega) (by omega) _ _ _, ((HT4.out.new (Nat.le_refl _) _ _).new (Nat.le_refl _) _ _).new (Nat.le_refl _) _ _⟩
    go_wp2_with fail
    exact bodyPost_ret (v := tv (gt xs i)) (by simp [results, Try.results50, go_sem, hR7.1.1, hR7.1.2.1, hR7.1.2.2, tv]) rfl ⟨rfl, dl xs i, List.Perm.refl _, dl_heap hh hi hlast, HF.out.1, HF.out.2⟩
end Go.Proofs.Ytehphgpkhfokhaa
