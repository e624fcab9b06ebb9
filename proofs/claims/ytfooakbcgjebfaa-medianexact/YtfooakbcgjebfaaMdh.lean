/- median: slid. -/
import Derived.Test.YtfooakbcgjebfaaMdg
namespace Go.Proofs.Ytfooakbcgjebfaa
open Go.RowKit Go.Conc Go.Shelf
attribute [local go_sem] Oper.semAt_some
/-- a list of vectors in memory -/
def VL (w : World) (a : Option Addr) (ls : List Vc) : Prop := ∀ i x, ls[i]? = some x → ∃ b off, a = some ⟨b, off, none⟩ ∧ C3 w b (off + i * 3) x
theorem VL.ext {w w' : World} {a : Option Addr} {ls : List Vc} (h : VL w a ls) (x : Ext w w') : VL w' a ls := fun i v hi => by
  obtain ⟨b, off, e, hc⟩ := h i v hi
  exact ⟨b, off, e, hc.ext x⟩
/-- vectors as cells -/
def vcs (l : List Vc) : List Value := l.flatMap fun r => [(.int .i64 r.x : Value), .int .i64 r.y, .int .i64 r.z]
theorem vcs_snoc (l : List Vc) (r : Vc) : vcs (l ++ [r]) = vcs l ++ [(.int .i64 r.x : Value), .int .i64 r.y, .int .i64 r.z] := by simp [vcs]
theorem vcs_len (l : List Vc) : (vcs l).length = l.length * 3 := by
  induction l with
  | nil => rfl
  | cons a l ih =>
    have h : vcs (a :: l) = [(.int .i64 a.x : Value), .int .i64 a.y, .int .i64 a.z] ++ vcs l := rfl
    rw [h, List.length_append, ih]
    simp only [List.length_cons, List.length_nil]
    omega
theorem mkslice0_q (n : Nat) (hn : n ≤ 256) (w : World) : (Instr.makeSlice 23 (.int .i64 0) (.int .i64 n)).run Try.prog w = .ok (.slice (some ⟨w.heap.size, 0, none⟩) 0 n) (w.alloc (.cells (madeCells zero3 (n * 3)) Erw)) := by
  obtain ⟨i, hi, hb, hs, hz⟩ := infoq
  have := run_make (P := Try.prog) w 23 25 i (.agg zero3) Try.underlying23 hi hz .i64 .i64 0 n (by omega) (by omega) (by rw [hb]; omega) (by omega)
  simpa [hs, Value.cells] using this
/-- at the end of the loop: the ring holds k of the list's -/
structure SlA (w0 wr : World) (p d c n : Nat) (l : List Vc) : Prop where
  r : Rq wr p d c n l
  x : Ext w0 wr
  p : w0.heap.size ≤ p
  d : w0.heap.size ≤ d
  c : w0.heap.size ≤ c
theorem SlA.ext {w0 wr wx : World} {p d c n : Nat} {l : List Vc} (h : SlA w0 wr p d c n l) (x : Ext wr wx) : SlA w0 wx p d c n l := ⟨h.r.ext x, h.x.trans x, h.p, h.d, h.c⟩
theorem SlA.push {w0 wr : World} {p d c n : Nat} {l : List Vc} (h : SlA w0 wr p d c n l) (x : Vc) :
    Calls Try.prog 29 #[.pointer (some ⟨p, 0, none⟩), rv x] wr fun e w' => (∃ v, e = .returned v) ∧ SlA w0 w' p d c n (pushL n l x) :=
  (push_any wr h.r x).mono fun _ _ ⟨h1, h2, h3⟩ => ⟨h1, h2, h3.below h.x (Nat.le_refl _) h.p h.d h.c, h.p, h.d, h.c⟩
theorem pushL_take {n : Nat} {ls : List Vc} (hl : ls.length ≤ n) {k : Nat} {x : Vc} (hk : ls[k]? = some x) : pushL n (ls.take k) x = ls.take (k + 1) := by
  have hlt : k < ls.length := (List.getElem?_eq_some_iff.1 hk).1
  unfold pushL
  rw [if_pos (by rw [List.length_take]; omega), List.take_add_one, hk]
  rfl
theorem upto_snd (l : List Vc) : (upto (fun j : Nat => (j, l[j]?.getD nought)) l.length).map Prod.snd = l := by
  apply List.ext_getElem?
  intro i
  unfold upto
  rw [List.map_map, List.getElem?_map]
  by_cases h : i < l.length
  · rw [List.getElem?_eq_getElem (by simpa using h), List.getElem_range, List.getElem?_eq_getElem h]
    simp [h]
  · rw [List.getElem?_eq_none (by simpa using h), List.getElem?_eq_none (by omega)]
    rfl
theorem vrow_tn {own : Nat → Prop} {w w' : World} {B : Nat} {e : TypeId} {s n : Nat} {v : Value} {xs : List Value} (h : w.ownsRow B e s v n xs) (t : Tn own w w') (ho : ∀ k, B ≤ k → v.ownBlock = some k → ¬ own k) : w'.ownsRow B e s v n xs := by
  refine ⟨h.1, ?_⟩
  rcases h.2 with e2 | ⟨g, cap, cur, hv', hb, hg, hr⟩
  · exact .inl e2
  · refine .inr ⟨g, cap, cur, hv', hb, ?_, hr⟩
    rw [t.2 g (Array.getElem?_eq_some_iff.1 hg).1 (ho g hb (by rw [hv']; rfl))]; exact hg
theorem vrow_ext {w w' : World} {B : Nat} {e : TypeId} {s n : Nat} {v : Value} {xs : List Value} (h : w.ownsRow B e s v n xs) (x : Ext w w') : w'.ownsRow B e s v n xs :=
  vrow_tn (own := fun _ => False) h (Tn.of_ext x) (fun _ _ _ k => k)
theorem ext_keeps {W W' : World} (x : Ext W W') : KeepsOthers W W' := ⟨x.size, fun _ _ hk _ => (x.blk (Array.getElem?_eq_some_iff.1 hk).1).trans hk⟩
/-- behind the rounds in pre: R the window's row, R + 1 its variable -/
structure SI (w : World) (R m : Nat) (W : World) (pre : List Vc) : Prop where
  x : Ext w W
  sz : R + 3 ≤ W.heap.size
  lo : w.heap.size ≤ R
  c : W.cell? ⟨R + 1, 0, none⟩ = some (.slice (some ⟨R, 0, none⟩) pre.length m)
  f : W.frozen? ⟨R + 1, 0, none⟩ = false
  r : W.ownsRow w.heap.size Erw 3 (.slice (some ⟨R, 0, none⟩) pre.length m) pre.length (vcs pre)
abbrev ownR (R : Nat) : Nat → Prop := fun k => k = R ∨ k = R + 1
theorem SI.ext {w W W2 : World} {R m : Nat} {pre : List Vc} (h : SI w R m W pre) (x : Ext W W2) : SI w R m W2 pre :=
  ⟨h.x.trans x, by have := x.size; have := h.sz; omega, h.lo, x.keepc h.c, x.keepf h.c h.f, vrow_ext h.r x⟩
theorem SI.grown {w W W' : World} {R m : Nat} {pre : List Vc} {row : Option Nat} (h : SI w R m W pre) (hg : W.grownBy W' row) (hr : ∀ r, row = some r → R + 3 ≤ r) : SI w R m W' pre := by
  have t : Tn (fun k => row = some k) W W' := (Tn.refl _ W).grown hg (fun k e => .inl e)
  have n : ∀ k, k < R + 3 → ¬ row = some k := fun k hk e => by have := hr k e; omega
  have hlo := h.lo
  refine ⟨t.below h.x (fun i e => by have := hr i e; omega), by have := t.size; have := h.sz; omega, h.lo, t.keepc (n _ (by omega)) h.c, t.keepf (n _ (by omega)) h.c h.f, vrow_tn h.r t (fun k _ hk e => ?_)⟩
  simp only [Value.ownBlock, Option.some.injEq] at hk
  exact n k (by omega) e
theorem SI.push {w W W2 W4 : World} {R m : Nat} {pre : List Vc} {r : Vc} (h : SI w R m W pre) (x : Ext W W2)
    (ho : W4.ownsRow w.heap.size Erw 3 (.slice (some ⟨R, 0, none⟩) (pre.length + 1) m) (pre.length + 1) (vcs pre ++ [(.int .i64 r.x : Value), .int .i64 r.y, .int .i64 r.z])) (hg : W2.grownBy W4 (some R)) :
    SI w R m (W4.setCell ⟨R + 1, 0, none⟩ (.slice (some ⟨R, 0, none⟩) (pre.length + 1) m)) (pre ++ [r]) ∧ KeepsOthers W (W4.setCell ⟨R + 1, 0, none⟩ (.slice (some ⟨R, 0, none⟩) (pre.length + 1) m)) ∧ KC (ownR R) W (W4.setCell ⟨R + 1, 0, none⟩ (.slice (some ⟨R, 0, none⟩) (pre.length + 1) m)) := by
  have t1 : Tn (ownR R) W2 W4 := (Tn.refl _ W2).grown hg (fun k e => by cases e; exact .inl (.inl rfl))
  have t0 : Tn (fun k => k = R) W2 W4 := (Tn.refl _ W2).grown hg (fun k e => by cases e; exact .inl rfl)
  have t2 : Tn (ownR R) W4 (W4.setCell ⟨R + 1, 0, none⟩ (.slice (some ⟨R, 0, none⟩) (pre.length + 1) m)) := (Tn.refl _ W4).set (.inl (.inr rfl)) _ _
  have t3 : Tn (fun k => k = R + 1) W4 (W4.setCell ⟨R + 1, 0, none⟩ (.slice (some ⟨R, 0, none⟩) (pre.length + 1) m)) := (Tn.refl (fun k => k = R + 1) W4).set (.inl rfl) _ _
  have c4 : W4.cell? ⟨R + 1, 0, none⟩ = some (.slice (some ⟨R, 0, none⟩) pre.length m) := t0.keepc (by omega) (x.keepc h.c)
  have f4 : W4.frozen? ⟨R + 1, 0, none⟩ = false := t0.keepf (by omega) (x.keepc h.c) (x.keepf h.c h.f)
  have hlo := h.lo
  have hT : Tn (ownR R) W (W4.setCell ⟨R + 1, 0, none⟩ (.slice (some ⟨R, 0, none⟩) (pre.length + 1) m)) := ((Tn.of_ext x).trans t1 (fun _ _ o => o)).trans t2 (fun _ _ o => o)
  refine ⟨⟨hT.below h.x (fun i hi => by unfold ownR at hi; omega), by have := hT.size; have := h.sz; omega, h.lo, ?_, ?_, ?_⟩, ?_, KC.of_tn hT⟩
  · rw [List.length_append]; exact World.cell?_setCell_same' _ _ _ (by rw [c4]; rfl)
  · rw [World.frozen?_setCell]; exact f4
  · rw [List.length_append, vcs_snoc]
    exact vrow_tn ho t3 (fun k _ hk e => by simp only [Value.ownBlock, Option.some.injEq] at hk; omega)
  · refine (ext_keeps x).trans (KeepsOthers.trans (KeepsOthers.of_grownBy hg (fun j o hj hjo => ?_)) (KeepsOthers.setCell _ _ _))
    cases hj
    rcases (vrow_ext h.r x).2 with ⟨e2, _⟩ | ⟨g, cap, cur, hv', _, hgg, _⟩
    · cases e2
    · cases hv'
      rw [hgg] at hjo
      cases hjo
      rfl
theorem news3 (w : World) (r : Vc) : ∀ j u, [(.int .i64 r.x : Value), .int .i64 r.y, .int .i64 r.z][j]? = some u → (w.alloc (cells3 r)).cell? ((⟨w.heap.size, 0, none⟩ : Addr).add j) = some u := by
  intro j u h
  match j, h with
  | 0, h | 1, h | 2, h => simp at h; subst h; simp [Addr.add, go_sem]
  | j + 3, h => simp at h
theorem news3_one (r : Vc) : ∀ u ∈ [(.int .i64 r.x : Value), .int .i64 r.y, .int .i64 r.z], u.oneCell' = true := by
  intro u h
  simp at h
  rcases h with rfl | rfl | rfl <;> rfl
/-- the window's row and its variable, new -/
theorem si_new {w w0 w3 : World} {m : Nat} {A : Array Value} (hA : A.size = m * 3) (hm : m ≤ 256) (h0 : Ext w w0) (x : Ext w0 w3) (T : TypeId) (o : Obj) :
    SI w w3.heap.size m (((w3.alloc (.cells A Erw)).alloc (.cells #[.slice (some ⟨w3.heap.size, 0, none⟩) 0 m] T)).alloc o) [] := by
  obtain ⟨h1, h2, h3⟩ := three_new w3 (.cells A Erw) (.cells #[.slice (some ⟨w3.heap.size, 0, none⟩) 0 m] T) o
  refine ⟨(((h0.trans x).alloc _).alloc _).alloc _, by simp, (h0.trans x).size, by unfold World.cell?; rw [h2]; rfl, by unfold World.frozen?; rw [h2]; rfl, by simp [vcs], .inr ⟨w3.heap.size, m, A, rfl, (h0.trans x).size, h1, Nat.zero_le _, by unfold maxLen; omega, hA, by simp [vcs]⟩⟩
set_option maxRecDepth 20000 in
set_option maxHeartbeats 8000000 in
theorem slid_any (ls : List Vc) (a : Option Addr) (lc n : Nat) (x : Vc) (h1 : 1 ≤ n) (h2 : n ≤ 256) (hl : ls.length ≤ n) (w : World) (hV : VL w a ls) :
    Calls Try.prog 19 #[.slice a ls.length lc, .int .i64 n, rv x] w fun e w' => ∃ g cap, e = .returned (.tuple #[.slice (some ⟨g, 0, none⟩) (pushL n ls x).length cap, .int .i64 0]) ∧ w'.ownsRow w.heap.size Erw 3 (.slice (some ⟨g, 0, none⟩) (pushL n ls x).length cap) (pushL n ls x).length (vcs (pushL n ls x)) ∧ Ext w w' := by
  obtain ⟨ms, hms⟩ : ∃ ms, pushL n ls x = ms := ⟨_, rfl⟩
  have HM : Hid (pushL n ls x = ms) := hms
  rw [hms]
  clear hms
  obtain ⟨ii, hii, hi1, hi2, hi3⟩ := infoq
  have HV : Hid (VL w a ls) := hV
  have HL : Hid (ls.length ≤ n) := hl
  have hll : ls.length ≤ 256 := by omega
  have H12 : Hid (1 ≤ n ∧ n ≤ 256) := ⟨h1, h2⟩
  have HB : Hid (P3 (w.alloc (cells3 x)) w.heap.size x) := p3_at rfl
  have HN : Calls Try.prog 28 #[.int .i64 n] (w.alloc (cells3 x)) fun e w' => ∃ p d c, e = .returned (.tuple #[.pointer (some ⟨p, 0, none⟩), .int .i64 0]) ∧ SlA (w.alloc (cells3 x)) w' p d c n [] := (new_lq _ n h1 h2).mono fun e w' ⟨p, d, c, e1, e2, e3, e4, e5, e6⟩ => ⟨p, d, c, e1, e2, e6, e3, e4, e5⟩
  clear hV hl h1 h2
  refine (callsIn_wide (n := 5)).1 (callsIn_of_wp_marks Try.func19 rfl trivial (wpIn_wide.2 ?_) rfl)
  simp only [Try.ntmps19, List.size_toArray, List.length_cons, List.length_nil, Nat.reduceAdd, Nat.reduceSub, Array.replicate_succ, Array.replicate_zero, List.push_toArray, List.append_toArray, List.nil_append, List.cons_append]
  go_wp2_with (go_at_call 28; refine HN.mono ?_; rintro e w1 ⟨p, d, c, rfl, hA⟩)
  have HA : Hid (SlA (w.alloc (cells3 x)) w1 p d c n (ls.take 0)) := hA
  clear hA HN
  go_loopw [25] (fun i wr => ∃ k : Nat, k ≤ ls.length ∧ i = .int .i64 k ∧ Hid (SlA (w.alloc (cells3 x)) wr p d c n (ls.take k))) (fun i _ => ls.length - (intOf i).toNat)
  case atStart => exact ⟨0, Nat.zero_le _, rfl, HA⟩
  case round =>
    obtain ⟨k, hk, rfl, hR⟩ := hrel
    by_cases hlt : k < ls.length
    · obtain ⟨v, hv⟩ : ∃ v, ls[k]? = some v := ⟨_, List.getElem?_eq_getElem hlt⟩
      have hx := hR.out.x
      obtain ⟨b, off, rfl, c0, c1, c2⟩ := (HV.out.ext (((Ext.refl w).alloc (cells3 x)).trans hx)) k v hv
      have HP : Hid (Calls Try.prog 29 #[.pointer (some ⟨p, 0, none⟩), rv v] (wr.alloc (cells3 v)) fun e w' => (∃ v, e = .returned v) ∧ SlA (w.alloc (cells3 x)) w' p d c n (ls.take (k + 1))) := by
        have := (hR.out.ext ((Ext.refl wr).alloc (cells3 v))).push v
        rw [pushL_take HL.out hv] at this
        exact this
      clear hx hv
      go_wp2_with (go_at_call 29; refine HP.out.mono ?_; rintro e w2 ⟨⟨u, rfl⟩, hA2⟩)
      have HA2 : Hid (SlA (w.alloc (cells3 x)) w2 p d c n (ls.take (k + 1))) := hA2
      clear hA2 HP
      go_roundw
      case measure => simp [intOf]; omega
      case rel => exact ⟨k + 1, by omega, by simp, HA2⟩
    · have hke : k = ls.length := by omega
      subst hke
      obtain ⟨⟨b0, b1, b2⟩, _⟩ := HB.out.ext hR.out.x
      have HP : Hid (Calls Try.prog 29 #[.pointer (some ⟨p, 0, none⟩), rv x] wr fun e w' => (∃ v, e = .returned v) ∧ SlA (w.alloc (cells3 x)) w' p d c n ms) := by
        have := hR.out.push x
        rw [List.take_length, HM.out] at this
        exact this
      have HN0 := H12.out.1
      go_upto_region 10 with (go_at_call 29; refine HP.out.mono ?_; rintro e w2 ⟨⟨u, rfl⟩, hA2⟩)
      have hm : ms.length ≤ 256 := by have := hA2.r.le; omega
      have HLn : Calls Try.prog 30 #[.pointer (some ⟨p, 0, none⟩)] w2 fun e w' => e = .returned (.int .i64 ms.length) ∧ SlA (w.alloc (cells3 x)) w' p d c n ms := (len_lq w2 hA2.r).mono fun e w' ⟨h1, h2⟩ => ⟨h1, hA2.ext h2.ext⟩
      have hmk := mkslice0_q ms.length hm
      clear HP hR hA2 b0 b1 b2 HB HA HV HL hll
      go_upto_region 11 with (go_at_call 30; refine HLn.mono ?_; rintro e w3 ⟨rfl, hA3⟩)
      have HX0 : Ext w (w.alloc (cells3 x)) := (Ext.refl w).alloc _
      have hS0 := si_new (size_madeCells zero3 (ms.length * 3)) hm HX0 hA3.x 23 (.cells #[.pointer (some ⟨p, 0, none⟩)] 56)
      have hq0 : Rq (((w3.alloc (.cells (madeCells zero3 (ms.length * 3)) Erw)).alloc (.cells #[.slice (some ⟨w3.heap.size, 0, none⟩) 0 ms.length] 23)).alloc (.cells #[.pointer (some ⟨p, 0, none⟩)] 56)) p d c n ms := hA3.r.ext ((((Ext.refl w3).alloc _).alloc _).alloc _)
      have hb0 : (((w3.alloc (.cells (madeCells zero3 (ms.length * 3)) Erw)).alloc (.cells #[.slice (some ⟨w3.heap.size, 0, none⟩) 0 ms.length] 23)).alloc (.cells #[.pointer (some ⟨p, 0, none⟩)] 56)).cell? ⟨w3.heap.size + 1 + 1, 0, none⟩ = some (.pointer (some ⟨p, 0, none⟩)) := by simp [go_sem]
      have hz0 : (((w3.alloc (.cells (madeCells zero3 (ms.length * 3)) Erw)).alloc (.cells #[.slice (some ⟨w3.heap.size, 0, none⟩) 0 ms.length] 23)).alloc (.cells #[.pointer (some ⟨p, 0, none⟩)] 56)).heap.size = w3.heap.size + 3 := by simp
      have HAl : Hid (∀ W, Calls Try.prog 31 #[.pointer (some ⟨p, 0, none⟩)] W fun e w' => e = .returned (.func (.func 39) #[] #[.pointer (some ⟨W.heap.size, 0, none⟩)]) ∧ w' = W.alloc (.cells #[.pointer (some ⟨p, 0, none⟩)] 56)) := all_q p
      have HQ0 : Hid _ := hq0
      have HB0 : Hid _ := hb0
      have HS0 : Hid _ := hS0
      have HZ0 : Hid _ := hz0
      clear hq0 hb0 hS0 hA3 HLn hmk HX0 hz0
      go_wp2_with (go_at_call 31; refine (HAl.out _).mono ?_; rintro e w4 ⟨rfl, rfl⟩)
      have hseq := all_stops (own := ownR w3.heap.size) 4 (by omega) (w3.heap.size + 1 + 1) _ (fun k hk => by rw [HZ0.out]; unfold ownR at hk; omega) HB0.out HQ0.out
      have hz0 := HZ0.out
      clear HQ0 HB0
      generalize (((w3.alloc (.cells (madeCells zero3 (ms.length * 3)) Erw)).alloc (.cells #[.slice (some ⟨w3.heap.size, 0, none⟩) 0 ms.length] 23)).alloc (.cells #[.pointer (some ⟨p, 0, none⟩)] 56)) = W4 at *
      generalize w3.heap.size = R at *
      refine (wpIn_wide (n := 5)).1 ?_
      refine wpIn_rangeFunc_ownH rfl (by omega) (gf := 39) (lb := #[.pointer (some ⟨R + 1 + 1, 0, none⟩)]) rfl trivial (enters_of Try.func39 (by kernel_rfl) rfl)
        hseq (fun h1 h2 => h1.trans h2) (fun W l o o' _ hl ho _ => KC.put W l o o' hl ho) (Below.refl _ _) (fun _ => rfl)
        (fun pre W => SI w R ms.length W (pre.map Prod.snd))
        (fun _ _ _ => False)
        (fun s A B' row hs hg hr => hs.grown hg (fun r e => by have := (hr r e).1; omega))
        (fun _ _ _ _ _ hs _ _ => hs)
        HS0.out
        (fun y a' W => ∃ Bx, C3 W Bx 0 y.2 ∧ a' = { tmps := #[.slice a ls.length lc, .int .i64 n, rv x, undef, undef, .pointer (some ⟨w.heap.size, 0, none⟩), .slice none 0 0, .int .i64 0, .pointer (some ⟨p, 0, none⟩), .int .i64 0, undef, u11, .pointer (some ⟨R + 1, 0, none⟩), undef, .pointer (some ⟨Bx, 0, none⟩), .tuple #[.pointer (some ⟨p, 0, none⟩), .int .i64 0], .int .i64 n, .tuple #[.pointer (some ⟨p, 0, none⟩), .int .i64 0], .pointer (some ⟨p, 0, none⟩), .int .i64 0, .int .i64 0, .bool false, undef, .slice a ls.length lc, .int .i64 ls.length, .int .i64 ls.length, .bool false, u27, u28, u29, u30, u31, u32, .pointer (some ⟨p, 0, none⟩), .agg #[.int .i64 x.x, .int .i64 x.y, .int .i64 x.z], u, .pointer (some ⟨p, 0, none⟩), .int .i64 ms.length, .slice (some ⟨R, 0, none⟩) 0 ms.length, .pointer (some ⟨p, 0, none⟩), .func (.func 39) #[] #[.pointer (some ⟨R + 1 + 1, 0, none⟩)], .int .i64 (y.1 : Int), rv y.2, undef, undef, undef, undef, undef], defers := [] })
        (fun y a' _ A B' row hs hg hr => by
          obtain ⟨Bx, ⟨h1, h2, h3⟩, h4⟩ := hs
          exact ⟨Bx, ⟨cell_kept h1 hg (fun r e => (hr r e).2), cell_kept h2 hg (fun r e => (hr r e).2), cell_kept h3 hg (fun r e => (hr r e).2)⟩, h4⟩)
        ?assign ?body ?done ?stop
      case assign =>
        rintro l pre y W K hS hK
        have hx := (Ext.refl W).alloc (cells3 y.2)
        have hP : P3 (W.alloc (cells3 y.2)) W.heap.size y.2 := p3_at rfl
        have HK := hK _ _ ((KeepsOthers.alloc _ _).from _) (KC.of_ext hx) (SI.ext hS hx) ⟨W.heap.size, hP.1, rfl⟩
        clear hK hx hP hS hseq HS0
        gi_wp2
        exact HK
      case body =>
        rintro l pre ⟨i, y⟩ a' W hl ⟨rr, hrr⟩ hS ⟨Bx, ⟨b0, b1, b2⟩, rfl⟩ hlen
        have HS : Hid (SI w R ms.length W (pre.map Prod.snd)) := hS
        dsimp only [Nat.zero_add] at b0 b1 b2
        have emap : (pre ++ [(i, y)]).map Prod.snd = pre.map Prod.snd ++ [y] := by simp
        have hpl : pre.length = (pre.map Prod.snd).length := by simp
        rw [hpl] at hlen
        show Code.wpIn (Fence.wide.inRound l) (5 - 1 - 1) Try.prog _ (ownPostG _ _ _ _ _ W) _ W
        have HW : Hid ((∀ W', SI w R ms.length W' (pre.map Prod.snd ++ [y]) → KeepsOthers W W' → KC (ownR R) W W' → ownPostG W4.heap.size (KC (ownR R)) (fun (pre : List (Nat × Vc)) W => SI w R ms.length W (pre.map Prod.snd)) (fun _ _ _ => False) (pre ++ [(i, y)]) W .normal { tmps := #[], defers := [] } W')) := fun W' h1 h2 h3 => ⟨h2.from _, h3, by show SI w R ms.length W' ((pre ++ [(i, y)]).map Prod.snd); rw [emap]; exact h1⟩
        have hc := hS.c
        have hf := hS.f
        have hr := hS.r
        clear hS emap hpl hseq HS0 hrr
        generalize pre.map Prod.snd = P at *
        have NW : Hid (∀ w1 : World, ∀ j u, [(.int .i64 y.x : Value), .int .i64 y.y, .int .i64 y.z][j]? = some u → (w1.alloc (cells3 y)).cell? ((⟨w1.heap.size, 0, none⟩ : Addr).add j) = some u) := fun w1 => news3 w1 y
        have XX : Hid (Ext W (W.alloc (cells3 y))) := (Ext.refl W).alloc _
        have HR : Hid (W.ownsRow w.heap.size Erw 3 (.slice (some ⟨R, 0, none⟩) P.length ms.length) P.length (vcs P)) := hr
        have hc2 := XX.out.keepc hc
        have hf2 := XX.out.keepf hc hf
        clear hr
        gi_wp2_with (gi_at_builtin; refine wpListIn_append_fits _ rfl _ _ 23 rfl w.heap.size 25 ii 3 Try.underlying23 hii hi2 R P.length ms.length (vcs P) rfl (vrow_ext HR.out XX.out) ⟨W.heap.size, 0, none⟩ 1 1 [(.int .i64 y.x : Value), .int .i64 y.y, .int .i64 y.z] rfl rfl (NW.out _) (news3_one y) (by omega) ?_; intro w5 hown hgrow; have b5 : w5.cell? ⟨R + 1, 0, none⟩ = some (.slice (some ⟨R, 0, none⟩) P.length ms.length) := ((Tn.refl (fun k => k = R) _).grown hgrow (fun k hk => by cases hk; exact .inl rfl)).keepc (by omega) hc2; have f5 : w5.frozen? ⟨R + 1, 0, none⟩ = false := ((Tn.refl (fun k => k = R) _).grown hgrow (fun k hk => by cases hk; exact .inl rfl)).keepf (by omega) hc2 hf2)
        obtain ⟨s1, s2, s3⟩ := HS.out.push XX.out hown hgrow
        exact HW.out _ s1 s2 s3
      case done =>
        rintro D ys W hD rfl hS hK
        have hS : SI w R ms.length W ((upto (fun j : Nat => (j, ms[j]?.getD nought)) ms.length).map Prod.snd) := hS
        rw [upto_snd] at hS
        have HS : Hid (SI w R ms.length W ms) := hS
        have hc := hS.c
        have HK : Hid (W.heap[D]? = some (.deferred (some []))) := hK
        have HD : Hid (R + 3 ≤ D) := by show _ ≤ _; omega
        clear hS hseq HS0 hK hD
        go_wp2_with fail
        have t7 : Tn (fun k => k = D) W (W.putObj D (.deferred none)) := (Tn.refl (fun k => k = D) W).grown (grownBy_putObj' W D (.deferred none)) (fun k e => by cases e; exact .inl rfl)
        have hlo := HS.out.lo
        have hD := HD.out
        have x7 : Ext w (W.putObj D (.deferred none)) := t7.below HS.out.x (fun i e => by omega)
        have r7 := vrow_tn HS.out.r t7 (fun k _ hk e => by simp only [Value.ownBlock, Option.some.injEq] at hk; omega)
        refine ⟨by simp, .inl ⟨_, _, rfl, run_takeDeferred HK.out, ?_⟩⟩
        refine ⟨.tuple #[.slice (some ⟨R, 0, none⟩) ms.length ms.length, .int .i64 0], ?_, R, ms.length, rfl, r7, x7⟩
        simp [results, Try.results19, go_sem]
      case stop =>
        rintro D cd pre W _ _ h _
        exact h.elim
end Go.Proofs.Ytfooakbcgjebfaa
