/- sched: New. -/
import Derived.Test.YtehphgpkhfokhaaSd
namespace Go.Proofs.Ytehphgpkhfokhaa
open Go.RowKit Go.Conc
theorem snew_bad (n : Int) (w : World) (hn : ¬ (1 ≤ n ∧ n ≤ 16)) :
    Calls Try.prog 7 #[.int .i64 n] w fun e w' => e = .returned (.tuple #[.pointer none, .int .i64 1]) ∧ w' = w := by
  by_cases h1 : n < 1
  · go_enter Try.func7, Try.ntmps7
    go_wp2_with fail
    exact bodyPost_ret (v := .tuple #[.pointer none, .int .i64 1]) (by simp [results, Try.results7, go_sem]) rfl ⟨rfl, rfl⟩
  · have h2 : n > 16 := by omega
    clear hn
    go_enter Try.func7, Try.ntmps7
    go_wp2_with fail
    exact bodyPost_ret (v := .tuple #[.pointer none, .int .i64 1]) (by simp [results, Try.results7, go_sem]) rfl ⟨rfl, rfl⟩
theorem Try.infoSig : (Try.prog.info? 73).map (fun i => (i.zero, i.size, i.bytes)) = some (some (.chan none), 1, 8) := by kernel_rfl
theorem Try.infoUnit : (Try.prog.info? 83).map (fun i => (i.zero, i.size, i.bytes)) = some (some (.agg #[]), 0, 0) := by kernel_rfl
theorem mkwakes (n : Nat) (hn : n ≤ 16) (w : World) : (Instr.makeSlice 62 (.int .i64 n) (.int .i64 n)).run Try.prog w = .ok (.slice (some ⟨w.heap.size, 0, none⟩) n n) (w.alloc (.cells (madeCells #[.chan none] n) 73)) := by
  obtain ⟨i, hi, hz, hs, hb⟩ := info_parts Try.infoSig
  have := run_make (P := Try.prog) w 62 73 i (.chan none) Try.underlying62 hi hz .i64 .i64 n n (by omega) (Int.le_refl _) (by rw [hb]; omega) (by omega)
  simpa [hs, Value.cells] using this
theorem mksig (w : World) : (Instr.makeChan 73 (.int .i64 1)).run Try.prog w = .ok (.chan (some w.heap.size)) (w.alloc (.chan 1 #[] false 0 0 false)) := by
  obtain ⟨i, hi, _, _, hb⟩ := info_parts Try.infoUnit
  exact run_makeChan (P := Try.prog) (w := w) Try.underlying73 hi .i64 1 (by omega) (by rw [hb]; omega)
theorem heap_alloc_at (w : World) (o : Obj) : (w.alloc o).heap[w.heap.size]? = some o := by
  show (w.heap.push o)[w.heap.size]? = some o
  simp
/-- a table that New has made up to the k-th signal -/
structure NewS (w wx : World) (t b : Nat) (c : Nat → Nat) (n k : Nat) : Prop where
  c0 : wx.cell? ⟨t, 0, none⟩ = some (.slice (some ⟨b, 0, none⟩) n n)
  c1 : wx.cell? ⟨t, 1, none⟩ = some (.slice none 0 0) ∧ wx.frozen? ⟨t, 1, none⟩ = false
  c2 : wx.cell? ⟨t, 2, none⟩ = some (.int .i64 0) ∧ wx.frozen? ⟨t, 2, none⟩ = false
  c3 : wx.cell? ⟨t, 3, none⟩ = some (.int .i64 0) ∧ wx.frozen? ⟨t, 3, none⟩ = false
  cb : ∀ i, i < n → ∃ u, wx.cell? ⟨b, i, none⟩ = some u ∧ wx.frozen? ⟨b, i, none⟩ = false
  ch : ∀ i, i < k → wx.cell? ⟨b, i, none⟩ = some (.chan (some (c i))) ∧ wx.heap[c i]? = some (.chan 1 #[] false 0 0 false) ∧ w.heap.size ≤ c i ∧ c i < wx.heap.size
  inj : ∀ i j, i < k → j < k → c i = c j → i = j
  tb : t ≠ b
  x : Ext w wx
  lt : w.heap.size ≤ t ∧ w.heap.size ≤ b
theorem NewS.step {w wx : World} {t b : Nat} {c : Nat → Nat} {n k : Nat} (h : NewS w wx t b c n k) (hk : k < n) :
    NewS w ((wx.alloc (.chan 1 #[] false 0 0 false)).setCell ⟨b, k, none⟩ (.chan (some wx.heap.size))) t b (fun i => if i = k then wx.heap.size else c i) n (k + 1) := by
  have x1 : Ext wx (wx.alloc (.chan 1 #[] false 0 0 false)) := (Ext.refl wx).alloc _
  have t1 : Turn (fun q j => q = b ∧ j = k) (wx.alloc (.chan 1 #[] false 0 0 false)) ((wx.alloc (.chan 1 #[] false 0 0 false)).setCell ⟨b, k, none⟩ (.chan (some wx.heap.size))) := (Turn.refl _ _).set ⟨rfl, rfl⟩ _
  have nt : ∀ j, ¬ (t = b ∧ j = k) := fun j e => h.tb e.1
  obtain ⟨u, hu, fu⟩ := h.cb k hk
  have lb : b < wx.heap.size := World.block_lt_of_cell? wx ⟨b, k, none⟩ hu
  have hsz : ((wx.alloc (.chan 1 #[] false 0 0 false)).setCell ⟨b, k, none⟩ (.chan (some wx.heap.size))).heap.size = wx.heap.size + 1 := by simp [World.setCell]
  refine ⟨t1.keepc (nt 0) (x1.keepc h.c0), ⟨t1.keepc (nt 1) (x1.keepc h.c1.1), t1.keepf (nt 1) (x1.keepc h.c1.1) (x1.keepf h.c1.1 h.c1.2)⟩, ⟨t1.keepc (nt 2) (x1.keepc h.c2.1), t1.keepf (nt 2) (x1.keepc h.c2.1) (x1.keepf h.c2.1 h.c2.2)⟩, ⟨t1.keepc (nt 3) (x1.keepc h.c3.1), t1.keepf (nt 3) (x1.keepc h.c3.1) (x1.keepf h.c3.1 h.c3.2)⟩, fun i hi => ?_, fun i hi => ?_, fun i j hi hj e => ?_, h.tb, ?_, h.lt⟩
  · obtain ⟨u', hu', fu'⟩ := h.cb i hi
    by_cases e : i = k
    · subst e
      exact ⟨_, World.cell?_setCell_same _ _ _ (x1.keepc hu), by rw [World.frozen?_setCell]; exact x1.keepf hu fu⟩
    · exact ⟨u', t1.keepc (fun z => e z.2) (x1.keepc hu'), t1.keepf (fun z => e z.2) (x1.keepc hu') (x1.keepf hu' fu')⟩
  · by_cases e : i = k
    · subst e
      simp only [if_true]
      refine ⟨World.cell?_setCell_same _ _ _ (x1.keepc hu), ?_, h.x.size, by rw [hsz]; omega⟩
      rw [t1.2.1 wx.heap.size (by simp) (fun j z => by omega)]
      exact heap_alloc_at wx _
    · obtain ⟨q1, q2, q3, q4⟩ := h.ch i (by omega)
      simp only [if_neg e]
      refine ⟨t1.keepc (fun z => e z.2) (x1.keepc q1), ?_, q3, by rw [hsz]; omega⟩
      have hne : c i ≠ b := fun z => by rw [z] at q2; exact cells_of_cell hu q2
      rw [t1.2.1 (c i) (by simp; omega) (fun j z => hne z.1), x1.block q4]
      exact q2
  · by_cases e1 : i = k
    · by_cases e2 : j = k
      · omega
      · rw [if_pos e1, if_neg e2] at e
        have := (h.ch j (by omega)).2.2.2; omega
    · by_cases e2 : j = k
      · rw [if_neg e1, if_pos e2] at e
        have := (h.ch i (by omega)).2.2.2; omega
      · rw [if_neg e1, if_neg e2] at e
        exact h.inj i j (by omega) (by omega) e
  · exact t1.below (h.x.trans x1) (fun i j o => by rw [o.1]; exact h.lt.2)
theorem up_rep (n i : Nat) : up (List.replicate n false) i = false := by
  unfold up
  simp only [List.getD_eq_getElem?_getD, List.getElem?_replicate]
  split <;> rfl
theorem NewS.tab {w wx : World} {t b : Nat} {c : Nat → Nat} {n : Nat} (h : NewS w wx t b c n n) (h1 : 1 ≤ n) (h2 : n ≤ 16) : Tab wx t b c (.slice none 0 0) ⟨List.replicate n false, [], 0, 0⟩ ∧ Ext w wx ∧ ∀ k, OwnT t b c n (.slice none 0 0) k → w.heap.size ≤ k := by
  refine ⟨⟨by simpa using h.c0, h.c3.1, h.c3.2, fun i hi => ?_, fun i j hi hj => h.inj i j (by simpa using hi) (by simpa using hj), ⟨[], ⟨h.c1, h.c2, World.ownsRow_nil _ _ _ _, by simp [Value.ownBlock]⟩, hw_nil⟩, h.tb, by simp [Value.ownBlock], by simp; omega, by simp⟩, h.x, fun k o => ?_⟩
  · obtain ⟨q1, q2, _⟩ := h.ch i (by simpa using hi)
    refine ⟨q1, 0, 0, ?_⟩
    simp only [up_rep]
    exact q2
  · rcases o with rfl | rfl | ⟨i, hi, rfl⟩ | o
    · exact h.lt.1
    · exact h.lt.2
    · exact (h.ch i hi).2.2.1
    · simp [Value.ownBlock] at o
theorem made_at (n i : Nat) (hi : i < n) : (madeCells #[Value.chan none] n)[i]? = some (.chan none) := by
  simp [madeCells, hi, Nat.mod_one]
/-- the table's first cells, made in either order -/
theorem news_a (w : World) (n : Nat) (T1 T2 T3 : TypeId) : NewS w (((w.alloc (.cells (madeCells #[.chan none] n) T1)).alloc (.cells #[.slice none 0 0, .int .i64 0] T2)).alloc (.cells #[.slice (some ⟨w.heap.size, 0, none⟩) n n, .slice none 0 0, .int .i64 0, .int .i64 0] T3)) (w.heap.size + 2) w.heap.size (fun _ => 0) n 0 := by
  refine ⟨by simp [go_sem], ⟨by simp [go_sem], by simp [go_sem]⟩, ⟨by simp [go_sem], by simp [go_sem]⟩, ⟨by simp [go_sem], by simp [go_sem]⟩, fun i hi => ⟨.chan none, ?_⟩, fun i hi => by omega, fun i j hi => by omega, by omega, (((Ext.refl w).alloc _).alloc _).alloc _, by omega, Nat.le_refl _⟩
  have x : Ext (w.alloc (.cells (madeCells #[.chan none] n) T1)) (((w.alloc (.cells (madeCells #[.chan none] n) T1)).alloc (.cells #[.slice none 0 0, .int .i64 0] T2)).alloc (.cells #[.slice (some ⟨w.heap.size, 0, none⟩) n n, .slice none 0 0, .int .i64 0, .int .i64 0] T3)) := ((Ext.refl _).alloc _).alloc _
  have h1 : (w.alloc (.cells (madeCells #[.chan none] n) T1)).cell? ⟨w.heap.size, i, none⟩ = some (.chan none) := by
    simp only [World.cell?, heap_alloc_at]
    exact made_at n i hi
  exact ⟨x.keepc h1, x.keepf h1 (by simp only [World.frozen?, heap_alloc_at]; simp)⟩
theorem news_b (w : World) (n : Nat) (T1 T2 T3 : TypeId) : NewS w (((w.alloc (.cells #[.slice none 0 0, .int .i64 0] T2)).alloc (.cells (madeCells #[.chan none] n) T1)).alloc (.cells #[.slice (some ⟨w.heap.size + 1, 0, none⟩) n n, .slice none 0 0, .int .i64 0, .int .i64 0] T3)) (w.heap.size + 2) (w.heap.size + 1) (fun _ => 0) n 0 := by
  refine ⟨by simp [go_sem], ⟨by simp [go_sem], by simp [go_sem]⟩, ⟨by simp [go_sem], by simp [go_sem]⟩, ⟨by simp [go_sem], by simp [go_sem]⟩, fun i hi => ⟨.chan none, ?_⟩, fun i hi => by omega, fun i j hi => by omega, by omega, (((Ext.refl w).alloc _).alloc _).alloc _, by omega, by omega⟩
  have x : Ext ((w.alloc (.cells #[.slice none 0 0, .int .i64 0] T2)).alloc (.cells (madeCells #[.chan none] n) T1)) (((w.alloc (.cells #[.slice none 0 0, .int .i64 0] T2)).alloc (.cells (madeCells #[.chan none] n) T1)).alloc (.cells #[.slice (some ⟨w.heap.size + 1, 0, none⟩) n n, .slice none 0 0, .int .i64 0, .int .i64 0] T3)) := (Ext.refl _).alloc _
  have h1 : ((w.alloc (.cells #[.slice none 0 0, .int .i64 0] T2)).alloc (.cells (madeCells #[.chan none] n) T1)).cell? ⟨w.heap.size + 1, i, none⟩ = some (.chan none) := by
    have hs : w.heap.size + 1 = (w.alloc (.cells #[.slice none 0 0, .int .i64 0] T2)).heap.size := by simp
    rw [hs]
    simp only [World.cell?, heap_alloc_at]
    exact made_at n i hi
  have f1 : ((w.alloc (.cells #[.slice none 0 0, .int .i64 0] T2)).alloc (.cells (madeCells #[.chan none] n) T1)).frozen? ⟨w.heap.size + 1, i, none⟩ = false := by
    have hs : w.heap.size + 1 = (w.alloc (.cells #[.slice none 0 0, .int .i64 0] T2)).heap.size := by simp
    rw [hs]
    simp only [World.frozen?, heap_alloc_at]
    simp
  exact ⟨x.keepc h1, x.keepf h1 f1⟩
theorem NewS.drew {w wx : World} {t b : Nat} {c : Nat → Nat} {n k : Nat} (h : NewS w wx t b c n k) : NewS w wx.drew t b c n k := ⟨h.c0, h.c1, h.c2, h.c3, h.cb, h.ch, h.inj, h.tb, h.x.drew, h.lt⟩
set_option maxHeartbeats 1000000 in
theorem snew_any (n : Nat) (w : World) (h1 : 1 ≤ n) (h2 : n ≤ 16) :
    Calls Try.prog 7 #[.int .i64 n] w fun e w' => ∃ t b c, e = .returned (.tuple #[.pointer (some ⟨t, 0, none⟩), .int .i64 0]) ∧ Tab w' t b c (.slice none 0 0) ⟨List.replicate n false, [], 0, 0⟩ ∧ Ext w w' ∧ ∀ k, OwnT t b c n (.slice none 0 0) k → w.heap.size ≤ k := by
  have h1' : ¬ (n : Int) < 1 := by omega
  have h2' : ¬ (n : Int) > 16 := by omega
  have HN : Hid (∀ w, Calls Try.prog 33 #[] w fun e w' => e = .returned (.pointer (some ⟨w.heap.size, 0, none⟩)) ∧ w' = w.alloc (.cells #[.slice none 0 0, .int .i64 0] 67)) := new_any
  have hmk := mkwakes n h2
  have hmc := mksig
  have HA := news_a w n 73 67 71
  have HB := news_b w n 73 67 71
  have HA : Hid _ := HA
  have HB : Hid _ := HB
  generalize madeCells #[Value.chan none] n = M at *
  go_enter Try.func7, Try.ntmps7
  go_upto_region 3 with fail
  go_cut [4] (fun v wx => ∃ t b c, v = .pointer (some ⟨t, 0, none⟩) ∧ Hid (NewS w wx t b c n 0))
  case first =>
    go_region_with (go_at_call 33; refine (HN.out _).mono ?_; rintro e wx ⟨rfl, rfl⟩)
    all_goals
      go_wp2_with fail
      go_meet
      first
      | exact ⟨_, _, _, rfl, HA.out.drew⟩
      | exact ⟨_, _, _, rfl, HB.out.drew⟩
  case rest =>
    obtain ⟨t, b, c, rfl, hN⟩ := hcut
    have c0 := hN.out.c0
    clear hmk HA HB HN
    go_wp2_with fail
    go_loopw [24] (fun s24 wr => ∃ (k : Nat) (c : Nat → Nat), k ≤ n ∧ s24 = .int .i64 k ∧ Hid (NewS w wr t b c n k)) (fun s24 _ => n - (intOf s24).toNat)
    case atStart => exact ⟨0, c, Nat.zero_le _, rfl, hN⟩
    case round =>
      obtain ⟨k, c, hk, rfl, hR⟩ := hrel
      by_cases hlt : k < n
      · have hlt' : (k : Int) < (n : Int) := by omega
        have c0 := hR.out.c0
        obtain ⟨u, hu, fu⟩ := hR.out.cb k hlt
        have HS1 : Hid _ := (hR.out.step hlt).drew
        have ht : ¬ t = wr.heap.size := Nat.ne_of_lt (World.block_lt_of_cell? wr ⟨t, 0, none⟩ c0)
        have hb : ¬ b = wr.heap.size := Nat.ne_of_lt (World.block_lt_of_cell? wr ⟨b, k, none⟩ hu)
        have ht' : ¬ wr.heap.size = t := fun e => ht e.symm
        have hb' : ¬ wr.heap.size = b := fun e => hb e.symm
        have xa : Ext wr (wr.alloc (.chan 1 #[] false 0 0 false)) := (Ext.refl wr).alloc _
        have c0a := xa.keepc c0
        have hua := xa.keepc hu
        have fua := xa.keepf hu fu
        clear hR hN xa
        go_upto_region 7 with fail
        go_region
        all_goals
          go_wp2_with fail
          go_roundw
          case measure => simp [intOf]; omega
          case rel => exact ⟨k + 1, _, by omega, by simp, HS1⟩
      · have hkn : ¬ (k : Int) < (n : Int) := by omega
        have hke : k = n := by omega
        have HF : Hid (NewS w wr t b c n n) := by rw [hke] at hR; exact hR
        clear hR hN hke
        go_wp2_with fail
        exact bodyPost_ret (v := .tuple #[.pointer (some ⟨t, 0, none⟩), .int .i64 0]) (by simp [results, Try.results7, go_sem]) rfl (by obtain ⟨q1, q2, q3⟩ := HF.out.tab h1 h2; first | exact ⟨t, b, c, rfl, q1, q2, q3⟩ | exact ⟨t, rfl, b, c, q1, q2, q3⟩)
end Go.Proofs.Ytehphgpkhfokhaa
