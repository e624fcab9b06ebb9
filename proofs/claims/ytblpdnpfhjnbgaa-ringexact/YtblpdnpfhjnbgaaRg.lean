/- gone: does All go through these? -/
import Derived.Test.YtblpdnpfhjnbgaaRpx
import Derived.Deep.CutBlock
import Derived.Test.YtblpdnpfhjnbgaaCr
namespace Go.Proofs.Ytblpdnpfhjnbgaa
open Go.RowKit Go.Conc Go.Shelf
attribute [local go_sem] Oper.semAt_some
theorem bytes_inj (x y : ByteArray) : x.toList = y.toList ↔ x = y := by
  constructor
  · intro h
    rw [ByteArray.toList_eq, ByteArray.toList_eq] at h
    cases x; cases y
    simp at h
    rw [h]
  · rintro rfl; rfl
set_option maxHeartbeats 4000000 in
theorem eqP (n m : Int) (x y : ByteArray) (w : World) : (Op.equalIn 10000 30 (.agg #[.int .i64 n, .string x]) (.agg #[.int .i64 m, .string y])).run Try.prog w = .ok (n == m && decide (x = y)) w := by
  by_cases hx : n = m <;> by_cases hy : x = y <;> simp [go_sem, hx, hy, bytes_inj]
/-- a slice of pairs -/
def Sl (w : World) (a : Option Addr) (l : List (Int × ByteArray)) : Prop :=
  ∀ i e, l[i]? = some e → ∃ b off, a = some ⟨b, off, none⟩ ∧ w.cell? ⟨b, off + i * 2, none⟩ = some (.int .i64 e.1) ∧ w.cell? ⟨b, off + i * 2 + 1, none⟩ = some (.string e.2)
theorem Sl.ext {w w' : World} {a : Option Addr} {l : List (Int × ByteArray)} (h : Sl w a l) (hx : Ext w w') : Sl w' a l := by
  intro i e he
  obtain ⟨b, off, ea, h1, h2⟩ := h i e he
  exact ⟨b, off, ea, hx.keepc h1, hx.keepc h2⟩
theorem Sl.grown {W W' : World} {row : Option Nat} {a : Option Addr} {l : List (Int × ByteArray)} (h : Sl W a l) (hg : W.grownBy W' row) (hr : ∀ r, row = some r → ∃ o : Obj, W.heap[r]? = some o ∧ o.isCells = false) : Sl W' a l := by
  intro i e he
  obtain ⟨b, off, ea, h1, h2⟩ := h i e he
  exact ⟨b, off, ea, cell_kept h1 hg hr, cell_kept h2 hg hr⟩
/-- what gone's variables hold: j have come -/
structure Gv (w W : World) (V : Nat) (a : Option Addr) (cp : Nat) (ea : Bool) (L : List (Int × ByteArray)) (j : Nat) : Prop where
  l : W.cell? ⟨V, 0, none⟩ = some (.slice a L.length cp)
  e : W.cell? ⟨V + 1, 0, none⟩ = some (.bool ea)
  r : W.cell? ⟨V + 1 + 1, 0, none⟩ = some (.bool false)
  rf : W.frozen? ⟨V + 1 + 1, 0, none⟩ = false
  n : W.cell? ⟨V + 1 + 1 + 1, 0, none⟩ = some (.int .i64 j)
  nf : W.frozen? ⟨V + 1 + 1 + 1, 0, none⟩ = false
  s : Sl W a L
  x : Ext w W
section
variable {w W W' : World} {V cp j : Nat} {a : Option Addr} {ea : Bool} {L : List (Int × ByteArray)}
theorem Gv.grown {row : Option Nat} {B0 : Nat} (h : Gv w W V a cp ea L j) (hg : W.grownBy W' row) (hr : ∀ r, row = some r → B0 ≤ r ∧ ∃ o : Obj, W.heap[r]? = some o ∧ o.isCells = false) (hw : w.heap.size ≤ B0) : Gv w W' V a cp ea L j := by
  have hr' : ∀ r, row = some r → ∃ o : Obj, W.heap[r]? = some o ∧ o.isCells = false := fun r e => (hr r e).2
  refine ⟨cell_kept h.l hg hr', cell_kept h.e hg hr', cell_kept h.r hg hr', (frozen_kept h.r hg hr').trans h.rf, cell_kept h.n hg hr', (frozen_kept h.n hg hr').trans h.nf, h.s.grown hg hr', ?_⟩
  refine ⟨hg.os.trans h.x.os, hg.tape.trans h.x.tape, hg.output.trans h.x.output, Nat.le_trans h.x.size hg.size, fun k hk => ?_⟩
  rw [hg.block k (Nat.lt_of_lt_of_le hk h.x.size) (fun e => by have := (hr k e.symm).1; omega)]
  exact h.x.block k hk
theorem Gv.ext (h : Gv w W V a cp ea L j) (hx : Ext W W') : Gv w W' V a cp ea L j := by
  have hl : ∀ {b o : Nat} {v : Value}, W.cell? ⟨b, o, none⟩ = some v → W'.frozen? ⟨b, o, none⟩ = W.frozen? ⟨b, o, none⟩ := fun {b o v} hc => Below.frozen (p := ⟨b, o, none⟩) hx (World.block_lt_of_cell? W ⟨b, o, none⟩ hc)
  exact ⟨hx.keepc h.l, hx.keepc h.e, hx.keepc h.r, (hl h.r).trans h.rf, hx.keepc h.n, (hl h.n).trans h.nf, h.s.ext hx, h.x.trans hx⟩
theorem Gv.count (h : Gv w W V a cp ea L j) (hV : w.heap.size = V) (hs : Sl w a L) (m : Nat) : Gv w (W.setCell ⟨V + 1 + 1 + 1, 0, none⟩ (.int .i64 m)) V a cp ea L m := by
  have kc : ∀ b o, b ≠ V + 1 + 1 + 1 → (W.setCell ⟨V + 1 + 1 + 1, 0, none⟩ (.int .i64 m)).cell? ⟨b, o, none⟩ = W.cell? ⟨b, o, none⟩ := fun b o hb => World.cell?_setCell_other _ _ _ _ (by intro e; have := congrArg Addr.block e; dsimp only at this; omega)
  have hx : Ext w (W.setCell ⟨V + 1 + 1 + 1, 0, none⟩ (.int .i64 m)) := Below.setCell h.x (p := ⟨V + 1 + 1 + 1, 0, none⟩) (by rw [hV]; show V ≤ V + 1 + 1 + 1; omega) _
  exact ⟨by rw [kc _ _ (by omega)]; exact h.l, by rw [kc _ _ (by omega)]; exact h.e, by rw [kc _ _ (by omega)]; exact h.r, by rw [World.frozen?_setCell]; exact h.rf, World.cell?_setCell_same' _ _ _ (by rw [h.n]; rfl), by rw [World.frozen?_setCell]; exact h.nf, hs.ext hx, hx⟩
end
set_option maxRecDepth 20000 in
set_option maxHeartbeats 8000000 in
theorem gone_p {p d c cap : Nat} {L : List (Int × ByteArray)} (a : Option Addr) (cp : Nat) (ea : Bool) (w : World) (h : Rp w p d c cap L) (hs : Sl w a L) :
    Calls Try.prog 13 #[.pointer (some ⟨p, 0, none⟩), .slice a L.length cp, .bool ea] w fun e w' => e = .returned (.bool true) ∧ Ext w w' := by
  have hle := h.le
  refine (callsIn_wide (n := 5)).1 (callsIn_of_wp_marks Try.func13 rfl trivial (wpIn_wide.2 ?_) rfl)
  simp only [Try.ntmps13, List.size_toArray, List.length_cons, List.length_nil, Nat.reduceAdd, Nat.reduceSub, Array.replicate_succ, Array.replicate_zero, List.push_toArray, List.append_toArray, List.nil_append, List.cons_append]
  go_wp2_with (go_at_call 30; refine (all_p _ _).mono ?_; rintro e wl ⟨rfl, rfl⟩)
  have hx3 : Ext w (((((w.alloc (.cells #[.slice a L.length cp] 33)).alloc (.cells #[.bool ea] 4)).alloc (.cells #[.bool false] 4)).alloc (.cells #[.int .i64 0] 3)).alloc (.cells #[.pointer (some ⟨p, 0, none⟩)] 25)) := (((((Ext.refl w).alloc _).alloc _).alloc _).alloc _).alloc _
  have hG0 : Gv w (((((w.alloc (.cells #[.slice a L.length cp] 33)).alloc (.cells #[.bool ea] 4)).alloc (.cells #[.bool false] 4)).alloc (.cells #[.int .i64 0] 3)).alloc (.cells #[.pointer (some ⟨p, 0, none⟩)] 25)) w.heap.size a cp ea L 0 := by
    refine ⟨?_, ?_, ?_, ?_, ?_, ?_, hs.ext hx3, hx3⟩ <;> simp [go_sem]
  have hbox : (((((w.alloc (.cells #[.slice a L.length cp] 33)).alloc (.cells #[.bool ea] 4)).alloc (.cells #[.bool false] 4)).alloc (.cells #[.int .i64 0] 3)).alloc (.cells #[.pointer (some ⟨p, 0, none⟩)] 25)).cell? ⟨w.heap.size + 1 + 1 + 1 + 1, 0, none⟩ = some (.pointer (some ⟨p, 0, none⟩)) := by simp [go_sem]
  have hsz3 : (((((w.alloc (.cells #[.slice a L.length cp] 33)).alloc (.cells #[.bool ea] 4)).alloc (.cells #[.bool false] 4)).alloc (.cells #[.int .i64 0] 3)).alloc (.cells #[.pointer (some ⟨p, 0, none⟩)] 25)).heap.size = w.heap.size + 5 := by simp
  have hseq := all_stops_p (zs := L) 4 (by omega) (w.heap.size + 1 + 1 + 1 + 1) (w.heap.size + 1 + 1 + 1) (fun j => (L[j]?.getD (0, ⟨#[]⟩)).1) (fun j => (L[j]?.getD (0, ⟨#[]⟩)).2) (fun j hj => by rw [List.getElem?_eq_getElem hj]; rfl) (((((w.alloc (.cells #[.slice a L.length cp] 33)).alloc (.cells #[.bool ea] 4)).alloc (.cells #[.bool false] 4)).alloc (.cells #[.int .i64 0] 3)).alloc (.cells #[.pointer (some ⟨p, 0, none⟩)] 25)) (by rw [hsz3]; omega) hbox (h.ext hx3)
  generalize hW3 : (((((w.alloc (.cells #[.slice a L.length cp] 33)).alloc (.cells #[.bool ea] 4)).alloc (.cells #[.bool false] 4)).alloc (.cells #[.int .i64 0] 3)).alloc (.cells #[.pointer (some ⟨p, 0, none⟩)] 25)) = W3 at *
  clear hW3 hbox hx3
  generalize hV : w.heap.size = V at *
  have HV : Hid (w.heap.size = V) := hV
  have hS : Hid (Sl w a L) := hs
  clear hs h
  refine (wpIn_wide (n := 5)).1 ?_
  refine wpIn_rangeFunc_ownH rfl (by omega) (gf := 39) (lb := #[.pointer (some ⟨V + 1 + 1 + 1 + 1, 0, none⟩)]) rfl trivial (enters_of Try.func39 (by kernel_rfl) rfl)
    hseq (fun h1 h2 => h1.trans h2) (fun W l o o' _ hl ho _ => KeepsCells.put W l o o' hl ho) (Below.refl _ _) (fun _ => rfl)
    (fun pre W => (pre = upto (fun j => (j, (L[j]?.getD (0, ⟨#[]⟩)).1, (L[j]?.getD (0, ⟨#[]⟩)).2)) pre.length ∧ ¬ (ea = true ∧ 2 ≤ pre.length)) ∧ Gv w W V a cp ea L pre.length)
    (fun cd pre W => (cd = .ret ∧ ¬ pre = upto (fun j => (j, (L[j]?.getD (0, ⟨#[]⟩)).1, (L[j]?.getD (0, ⟨#[]⟩)).2)) pre.length) ∨ (cd = .exit 0 ∧ ea = true ∧ pre.length = 2 ∧ Gv w W V a cp ea L 2))
    (fun s A B' row hs hg hr => ⟨hs.1, hs.2.grown hg hr (by omega)⟩)
    (fun cd s A B' row hs hg hr => hs.imp id (fun ⟨h1, h2, h3, h4⟩ => ⟨h1, h2, h3, h4.grown hg hr (by omega)⟩))
    ⟨⟨rfl, by simp⟩, hG0⟩
    (fun x a' W => ∃ Bx, (W.cell? ⟨Bx, 0, none⟩ = some (.int .i64 x.2.1) ∧ W.cell? ⟨Bx, 1, none⟩ = some (.string x.2.2)) ∧ a' = { tmps := #[.pointer (some ⟨p, 0, none⟩), .slice a L.length cp, .bool ea, undef, .pointer (some ⟨V, 0, none⟩), .pointer (some ⟨V + 1, 0, none⟩), .pointer (some ⟨V + 1 + 1, 0, none⟩), .pointer (some ⟨V + 1 + 1 + 1, 0, none⟩), .int .i64 (x.1 : Int), .pointer (some ⟨Bx, 0, none⟩), .pointer (some ⟨p, 0, none⟩), .func (.func 39) #[] #[.pointer (some ⟨V + 1 + 1 + 1 + 1, 0, none⟩)], .int .i64 (x.1 : Int), pr x.2.1 x.2.2, undef, undef, undef, undef, undef, undef, undef, undef, undef, undef, undef, undef, undef, undef, undef, undef, undef, undef, undef, undef, undef, undef, undef, undef, undef, undef, undef, undef, undef, undef, undef, undef, undef, undef, undef], defers := [] })
    (fun x a' _ A B' row hs hg hr => by
      obtain ⟨Bx, ⟨h1, h2⟩, h3⟩ := hs
      exact ⟨Bx, ⟨cell_kept h1 hg (fun r e => (hr r e).2), cell_kept h2 hg (fun r e => (hr r e).2)⟩, h3⟩)
    ?assign ?body ?done ?stop
  case assign =>
    rintro l pre x W K ⟨hp, hG⟩ hK
    have hx := (Ext.refl W).alloc (.cells #[.int .i64 x.2.1, .string x.2.2] Ep)
    have hP : P2 (W.alloc (.cells #[.int .i64 x.2.1, .string x.2.2] Ep)) W.heap.size x.2.1 x.2.2 := p2_at rfl
    have hk1 : KeepsFrom W3.heap.size W (W.alloc (.cells #[.int .i64 x.2.1, .string x.2.2] Ep)) := (KeepsOthers.alloc _ _).from _
    have hk2 : KeepsCells (V + 1 + 1 + 1) W (W.alloc (.cells #[.int .i64 x.2.1, .string x.2.2] Ep)) := fun b C E fz _ hx => (Below.heap_alloc _ _ _ (Array.getElem?_eq_some_iff.1 hx).1).trans hx
    have hG' := hG.ext hx
    have HK := hK _ _ hk1 hk2 ⟨hp, hG'⟩ ⟨W.heap.size, ⟨hP.1, hP.2.1⟩, rfl⟩
    clear hK hx hP hk1 hk2 hG' hG hseq hG0
    gi_wp2
    exact HK
  case body =>
    rintro l pre ⟨i, n0, x0⟩ a' W hl ⟨rr, hrr⟩ ⟨⟨hpre, hne2⟩, hG⟩ ⟨Bx, ⟨b0, b1⟩, rfl⟩ hlen
    obtain ⟨⟨m0, y0⟩, he⟩ : ∃ e, L[pre.length]? = some e := ⟨_, List.getElem?_eq_getElem hlen⟩
    obtain ⟨b, off, rfl, s0, s1⟩ := hG.s pre.length (m0, y0) he
    have HG : Hid (Gv w W V (some ⟨b, off, none⟩) cp ea L pre.length) := hG
    have zl := hG.l
    have ze := hG.e
    have zn := hG.n
    have znf := hG.nf
    have hpl : pre.length ≤ 256 := by omega
    have hlt : (pre.length : Int) < (L.length : Int) := by omega
    dsimp only at b0 b1 s0 s1 ⊢
    have hfj : (pre.length, (L[pre.length]?.getD (0, ⟨#[]⟩)).1, (L[pre.length]?.getD (0, ⟨#[]⟩)).2) = (pre.length, m0, y0) := by rw [he]; rfl
    have hnle : ¬ L.length ≤ pre.length := by omega
    by_cases hx : i = pre.length ∧ n0 = m0 ∧ x0 = y0
    · obtain ⟨rfl, rfl, rfl⟩ := hx
      have heq := eqP n0 n0 x0 x0
      have hup : pre ++ [(pre.length, n0, x0)] = upto (fun j => (j, (L[j]?.getD (0, ⟨#[]⟩)).1, (L[j]?.getD (0, ⟨#[]⟩)).2)) (pre ++ [(pre.length, n0, x0)]).length := by
        rw [List.length_append, List.length_singleton, upto_succ, ← hpre, hfj]
      have HUP : Hid (pre ++ [(pre.length, n0, x0)] = upto (fun j => (j, (L[j]?.getD (0, ⟨#[]⟩)).1, (L[j]?.getD (0, ⟨#[]⟩)).2)) (pre ++ [(pre.length, n0, x0)]).length) := hup
      have HCn : Hid (∀ q, Gv w ((W.drewN q).setCell ⟨V + 1 + 1 + 1, 0, none⟩ (.int .i64 ((pre.length + 1 : Nat) : Int))) V (some ⟨b, off, none⟩) cp ea L (pre.length + 1)) := fun q => (HG.out.ext (drewN_ext q)).count HV.out hS.out (pre.length + 1)
      have HN2 : Hid (¬ (ea = true ∧ 2 ≤ pre.length)) := hne2
      clear hG hseq hG0 hrr hpre hne2 he hup hfj
      have nle : (pre ++ [(pre.length, n0, x0)]).length = pre.length + 1 := by simp
      gi_wp2
      refine wpIn_round_quiet (by kernel_rfl) (by kernel_rfl) (by kernel_rfl) ?_
      repeat (quiet_step (fail))
      refine wpQuiet_nil ?_
      intro _ hw'
      obtain ⟨nq, hw''⟩ := hw'
      subst hw''
      have hkf : ∀ v, KeepsFrom W3.heap.size W ((W.drewN nq).setCell ⟨V + 1 + 1 + 1, 0, none⟩ v) := fun v => keeps_quiet_set W _ nq _ _
      have hkc : ∀ v, KeepsCells (V + 1 + 1 + 1) W ((W.drewN nq).setCell ⟨V + 1 + 1 + 1, 0, none⟩ v) := fun v b C E fz hb hx => by rw [heap_setCell_far _ _ _ _ _ (Ne.symm hb)]; exact hx
      cases hea : ea with
      | false =>
        subst hea
        gi_wp2
        exact ⟨hkf _, hkc _, ⟨HUP.out, by simp⟩, by rw [nle]; exact HCn.out nq⟩
      | true =>
        subst hea
        by_cases h1 : pre.length = 1
        · have g1 : ((pre.length : Int) + 1 == 2) = true := by rw [h1]; rfl
          gi_wp2
          exact ⟨by rw [← hsz3]; exact hkf _, .inr ⟨rfl, by simp [h1], by have h := HCn.out nq; rw [h1] at h; exact h⟩⟩
        · have h0 : pre.length = 0 := by have := HN2.out; simp at this; omega
          have g1 : ((pre.length : Int) + 1 == 2) = false := by rw [h0]; rfl
          gi_wp2
          exact ⟨by rw [← hsz3]; exact hkf _, hkc _, ⟨by have := HUP.out; rw [h0] at this; exact this, by simp [h0]⟩, by have h := HCn.out nq; rw [h0] at h; simpa [h0] using h⟩
    · have hbad : ¬ pre ++ [(i, n0, x0)] = upto (fun j => (j, (L[j]?.getD (0, ⟨#[]⟩)).1, (L[j]?.getD (0, ⟨#[]⟩)).2)) (pre ++ [(i, n0, x0)]).length := by
        intro e
        rw [List.length_append, List.length_singleton, upto_succ, ← hpre, hfj] at e
        have := List.append_cancel_left e
        simp at this
        exact hx this
      have HBD : Hid (¬ pre ++ [(i, n0, x0)] = upto (fun j => (j, (L[j]?.getD (0, ⟨#[]⟩)).1, (L[j]?.getD (0, ⟨#[]⟩)).2)) (pre ++ [(i, n0, x0)]).length) := hbad
      have zr : ∀ q, (W.drewN q).cell? ⟨V + 1 + 1, 0, none⟩ = some (.bool false) := fun q => HG.out.r
      have zrf : ∀ q, (W.drewN q).frozen? ⟨V + 1 + 1, 0, none⟩ = false := fun q => HG.out.rf
      have zr0 := HG.out.r
      have zrf0 := HG.out.rf
      clear hG hseq hG0 hrr hpre hne2 hbad hfj
      by_cases hi : i = pre.length
      · subst hi
        have hne : (n0 == m0 && decide (x0 = y0)) = false := by
          by_cases e1 : n0 = m0
          · have e2 : ¬ x0 = y0 := fun e => hx ⟨rfl, e1, e⟩
            simp [e2]
          · simp [e1]
        have heq := eqP n0 m0 x0 y0
        simp only [hne] at heq
        clear hx he hne
        gi_wp2
        refine wpIn_round_quiet (by kernel_rfl) (by kernel_rfl) (by kernel_rfl) ?_
        repeat (quiet_step (fail))
        refine wpQuiet_nil ?_
        intro _ hw'
        obtain ⟨nq, hw''⟩ := hw'
        subst hw''
        gi_wp2
        exact ⟨keeps_quiet_set W _ nq _ _, .inl ⟨rfl, HBD.out⟩⟩
      · have hii : ¬ (i : Int) = (pre.length : Int) := by omega
        clear hx he
        gi_wp2
        refine wpIn_round_quiet (by kernel_rfl) (by kernel_rfl) (by kernel_rfl) ?_
        repeat (quiet_step (fail))
        refine wpQuiet_nil ?_
        intro _ hw'
        obtain ⟨nq, hw''⟩ := hw'
        subst hw''
        gi_wp2
        exact ⟨keeps_quiet_set W _ nq _ _, .inl ⟨rfl, HBD.out⟩⟩
  case done =>
    rintro D' ys W4 hD rfl ⟨_, hG⟩ hK
    rw [upto_length] at hG
    have HG : Hid (Gv w W4 V a cp ea L L.length) := hG
    have HD : Hid (w.heap.size ≤ D') := by show _ ≤ _; rw [HV.out]; omega
    have zl := hG.l
    have ze := hG.e
    have zn := hG.n
    have zr := hG.r
    have zrf := hG.rf
    clear hG hseq hG0
    go_wp2_with fail
    have hK8 := (KeepsOthers.setCell W4 ⟨V + 1 + 1, 0, none⟩ (.bool true)).same D' _ hK rfl
    refine ⟨by simp, .inl ⟨_, _, rfl, run_takeDeferred hK8, ?_⟩⟩
    have hc8 := cell_kept (World.cell?_setCell_same' W4 ⟨V + 1 + 1, 0, none⟩ (.bool true) (by rw [zr]; rfl)) (grownBy_putObj' _ D' (.deferred none)) (fun r e => by cases e; exact ⟨_, hK8, rfl⟩)
    refine ⟨.bool true, ?_, rfl, ?_⟩
    · simp [results, Try.results13, go_sem, hc8]
    · exact (Below.setCell HG.out.x (p := ⟨V + 1 + 1, 0, none⟩) (by rw [HV.out]; show V ≤ V + 1 + 1; omega) _).trans (belowK_b (w := w) (Nat.le_refl _) _ D' _ _ HD.out hK8 rfl rfl)
  case stop =>
    rintro D' cd pre W4 hD ⟨k', hk', rfl⟩ (⟨_, hne⟩ | ⟨rfl, rfl, hl2, hG⟩) hK
    · exact absurd (by rw [upto_length]) hne
    · have HG : Hid (Gv w W4 V a cp true L 2) := hG
      have HD : Hid (w.heap.size ≤ D') := by show _ ≤ _; rw [HV.out]; omega
      have zl := hG.l
      have ze := hG.e
      have zn := hG.n
      have zr := hG.r
      have zrf := hG.rf
      clear hG hseq hG0 hl2
      refine wpIn_wide.2 ?_
      by_cases h2 : (2 : Int) = (L.length : Int)
      · go_wp2_with fail
        have hK8 := (KeepsOthers.setCell W4 ⟨V + 1 + 1, 0, none⟩ (.bool true)).same D' _ hK rfl
        refine ⟨by simp, .inl ⟨_, _, rfl, run_takeDeferred hK8, ?_⟩⟩
        have hc8 := cell_kept (World.cell?_setCell_same' W4 ⟨V + 1 + 1, 0, none⟩ (.bool true) (by rw [zr]; rfl)) (grownBy_putObj' _ D' (.deferred none)) (fun r e => by cases e; exact ⟨_, hK8, rfl⟩)
        refine ⟨.bool true, ?_, rfl, ?_⟩
        · simp [results, Try.results13, go_sem, hc8]
        · exact (Below.setCell HG.out.x (p := ⟨V + 1 + 1, 0, none⟩) (by rw [HV.out]; show V ≤ V + 1 + 1; omega) _).trans (belowK_b (w := w) (Nat.le_refl _) _ D' _ _ HD.out hK8 rfl rfl)
      · go_wp2_with fail
        have hK8 := (KeepsOthers.setCell W4 ⟨V + 1 + 1, 0, none⟩ (.bool true)).same D' _ hK rfl
        refine ⟨by simp, .inl ⟨_, _, rfl, run_takeDeferred hK8, ?_⟩⟩
        have hc8 := cell_kept (World.cell?_setCell_same' W4 ⟨V + 1 + 1, 0, none⟩ (.bool true) (by rw [zr]; rfl)) (grownBy_putObj' _ D' (.deferred none)) (fun r e => by cases e; exact ⟨_, hK8, rfl⟩)
        refine ⟨.bool true, ?_, rfl, ?_⟩
        · simp [results, Try.results13, go_sem, hc8]
        · exact (Below.setCell HG.out.x (p := ⟨V + 1 + 1, 0, none⟩) (by rw [HV.out]; show V ≤ V + 1 + 1; omega) _).trans (belowK_b (w := w) (Nat.le_refl _) _ D' _ _ HD.out hK8 rfl rfl)
end Go.Proofs.Ytblpdnpfhjnbgaa
