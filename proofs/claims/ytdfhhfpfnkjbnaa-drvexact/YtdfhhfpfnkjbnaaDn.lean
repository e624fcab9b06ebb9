/- drv: sampled. -/
import Derived.Test.YtdfhhfpfnkjbnaaDm
import Derived.Test.YtdfhhfpfnkjbnaaDb
namespace Go.Proofs.Ytdfhhfpfnkjbnaa
open Go.RowKit Go.Conc Go.Shelf
attribute [local go_sem] Oper.semAt_some
/-- one part taken in: samples that are right, how many are bad -/
def smpStep (C : Nat → B8) (acc : List Raw × Int) (x : Nat) : List Raw × Int :=
  if (C x).b7 = ckTo (C x) 7 then (acc.1 ++ [unp (C x)], acc.2) else (acc.1, if acc.2 < 1099511627776 then acc.2 + 1 else acc.2)
def smps (C : Nat → B8) (bad : Int) (xs : List Nat) : List Raw × Int := xs.foldl (smpStep C) ([], bad)
theorem smps_snoc (C : Nat → B8) (bad : Int) (xs : List Nat) (x : Nat) : smps C bad (xs ++ [x]) = smpStep C (smps C bad xs) x := by simp [smps]
theorem smps_bad' (C : Nat → B8) (xs : List Nat) : ∀ acc : List Raw × Int, 0 ≤ acc.2 ∧ acc.2 ≤ 1099511627776 → 0 ≤ (xs.foldl (smpStep C) acc).2 ∧ (xs.foldl (smpStep C) acc).2 ≤ 1099511627776 := by
  induction xs with
  | nil => intro acc h; exact h
  | cons x xs ih =>
    intro acc h
    rw [List.foldl_cons]
    refine ih _ ?_
    unfold smpStep
    split
    · exact h
    · dsimp only; split <;> omega
theorem smps_bad (C : Nat → B8) (bad : Int) (h : 0 ≤ bad ∧ bad ≤ 1099511627776) (xs : List Nat) : 0 ≤ (smps C bad xs).2 ∧ (smps C bad xs).2 ≤ 1099511627776 := smps_bad' C xs ([], bad) h
/-- samples as cells -/
def rvs (l : List Raw) : List Value := l.flatMap fun r => [(.int .i64 r.x : Value), .int .i64 r.y, .int .i64 r.z, .int .i64 r.t]
theorem rvs_snoc (l : List Raw) (r : Raw) : rvs (l ++ [r]) = rvs l ++ [(.int .i64 r.x : Value), .int .i64 r.y, .int .i64 r.z, .int .i64 r.t] := by simp [rvs]
theorem uptoF_val (m : Nat) : ∀ k, k ≤ m → (uptoF m k).map Subtype.val = List.range k
  | 0, _ => rfl
  | k + 1, h => by rw [uptoF, dif_pos (by omega), List.map_append, uptoF_val m k (by omega), List.range_succ]; rfl
theorem smps_len' (C : Nat → B8) (xs : List Nat) : ∀ acc : List Raw × Int, (xs.foldl (smpStep C) acc).1.length ≤ acc.1.length + xs.length := by
  induction xs with
  | nil => intro acc; simp
  | cons x xs ih =>
    intro acc
    rw [List.foldl_cons]
    have h1 := ih (smpStep C acc x)
    have h2 : (smpStep C acc x).1.length ≤ acc.1.length + 1 := by
      unfold smpStep
      split <;> simp
    simp only [List.length_cons]
    omega
theorem smps_len (C : Nat → B8) (bad : Int) (xs : List Nat) : (smps C bad xs).1.length ≤ xs.length := by
  have := smps_len' C xs ([], bad)
  rw [List.length_nil, Nat.zero_add] at this
  exact this
theorem dinfo : ∃ i, Try.prog.info? 72 = some i ∧ i.zero = some (.agg #[.int .i64 0, .int .i64 0, .int .i64 0, .int .i64 0]) ∧ i.size = 4 ∧ i.bytes = 32 := by
  have h : (Try.prog.info? 72).map (fun i => (i.zero, i.size, i.bytes)) = some (some (.agg #[.int .i64 0, .int .i64 0, .int .i64 0, .int .i64 0]), 4, 32) := by kernel_rfl
  cases hp : Try.prog.info? 72 with
  | none => rw [hp] at h; simp at h
  | some i =>
    rw [hp] at h
    simp only [Option.map_some, Option.some.injEq, Prod.mk.injEq] at h
    exact ⟨i, rfl, h.1, h.2.1, h.2.2⟩
theorem drow_tn {own : Nat → Prop} {w w' : World} {B : Nat} {e : TypeId} {s n : Nat} {v : Value} {xs : List Value} (h : w.ownsRow B e s v n xs) (t : Tn own w w') (ho : ∀ k, B ≤ k → v.ownBlock = some k → ¬ own k) : w'.ownsRow B e s v n xs := by
  refine ⟨h.1, ?_⟩
  rcases h.2 with e2 | ⟨g, cap, cur, hv', hb, hg, hr⟩
  · exact .inl e2
  · refine .inr ⟨g, cap, cur, hv', hb, ?_, hr⟩
    rw [t.2 g (Array.getElem?_eq_some_iff.1 hg).1 (ho g hb (by rw [hv']; rfl))]; exact hg
theorem drow_ext {w w' : World} {B : Nat} {e : TypeId} {s n : Nat} {v : Value} {xs : List Value} (h : w.ownsRow B e s v n xs) (x : Ext w w') : w'.ownsRow B e s v n xs :=
  drow_tn (own := fun _ => False) h (Tn.of_ext x) (fun _ _ _ k => k)
theorem drow_form {w : World} {B : Nat} {e : TypeId} {s n : Nat} {v : Value} {xs : List Value} (h : w.ownsRow B e s v n xs) : ∃ a c, v = .slice a n c := by
  rcases h.2 with ⟨e2, e3⟩ | ⟨g, cap, cur, hv', _⟩
  · exact ⟨none, 0, by rw [e2, e3]⟩
  · exact ⟨_, _, hv'⟩
abbrev zro' : Obj := .cells #[.int .i64 0, .int .i64 0, .bool false, .int .i64 0, .int .i64 0, .int .i64 0, .bool false, .int .i64 0, .int .i64 0] 24
/-- behind the parts in pre: B the variable of the driver, B + 1 what is told, B + 2 the samples -/
structure SI (w : World) (d : Dr) (C : Nat → B8) (W : World) (pre : List Nat) : Prop where
  x : Ext w W
  sz : w.heap.size + 5 ≤ W.heap.size
  dv : DV W w.heap.size { d with bad := (smps C d.bad pre).2 }
  z : DV W (w.heap.size + 1) zeroD
  r : ∃ v, W.cell? ⟨w.heap.size + 1 + 1, 0, none⟩ = some v ∧ W.frozen? ⟨w.heap.size + 1 + 1, 0, none⟩ = false ∧ W.ownsRow (w.heap.size + 5) 72 4 v (smps C d.bad pre).1.length (rvs (smps C d.bad pre).1)
/-- what a round may write -/
abbrev ownS (B : Nat) : Nat → Prop := fun k => k = B ∨ k = B + 1 + 1 ∨ B + 5 ≤ k
theorem DV.tn {own : Nat → Prop} {w w' : World} {b : Nat} {d : Dr} (h : DV w b d) (t : Tn own w w') (hb : ¬ own b) : DV w' b d := h.blk (t.2 b h.lt hb)
theorem tn_put9 (w : World) (b : Nat) (e : Dr) : Tn (fun k => k = b) w (put9 w b e) := ((((((((((Tn.refl (fun k => k = b) w).set (.inl rfl) _ _).set (.inl rfl) _ _).set (.inl rfl) _ _).set (.inl rfl) _ _).set (.inl rfl) _ _).set (.inl rfl) _ _).set (.inl rfl) _ _).set (.inl rfl) _ _).set (.inl rfl) _ _)
theorem SI.grown {w W W' : World} {d : Dr} {C : Nat → B8} {pre : List Nat} {row : Option Nat} (h : SI w d C W pre) (hg : W.grownBy W' row) (hr : ∀ r, row = some r → w.heap.size + 5 ≤ r ∧ ∃ o : Obj, W.heap[r]? = some o ∧ o.isCells = false) : SI w d C W' pre := by
  have t : Tn (fun k => row = some k) W W' := (Tn.refl _ W).grown hg (fun k e => .inl e)
  have n : ∀ k, k < w.heap.size + 5 → ¬ row = some k := fun k hk e => by have := (hr k e).1; omega
  obtain ⟨v, r1, r2, r3⟩ := h.r
  refine ⟨t.below h.x (fun i e => by have := (hr i e).1; omega), by have := t.size; have := h.sz; omega, h.dv.tn t (n _ (by omega)), h.z.tn t (n _ (by omega)), v, t.keepc (n _ (by omega)) r1, t.keepf (n _ (by omega)) r1 r2, drow_tn r3 t (fun k _ hk e => ?_)⟩
  obtain ⟨_, o, ho, hc⟩ := hr k e
  rcases r3.2 with ⟨e2, _⟩ | ⟨g, cap, cur, hv', _, hgg, _⟩
  · rw [e2] at hk; simp [Value.ownBlock] at hk
  · rw [hv'] at hk
    simp only [Value.ownBlock, Option.some.injEq] at hk
    subst hk
    rw [hgg] at ho
    cases ho
    simp [Obj.isCells] at hc
theorem news4 (w : World) (r : Raw) : ∀ j u, [(.int .i64 r.x : Value), .int .i64 r.y, .int .i64 r.z, .int .i64 r.t][j]? = some u → (w.alloc (c4o r)).cell? ((⟨w.heap.size, 0, none⟩ : Addr).add j) = some u := by
  intro j u h
  match j, h with
  | 0, h | 1, h | 2, h | 3, h => simp at h; subst h; simp [Addr.add, go_sem]
  | j + 4, h => simp at h
theorem news4_one (r : Raw) : ∀ u ∈ [(.int .i64 r.x : Value), .int .i64 r.y, .int .i64 r.z, .int .i64 r.t], u.oneCell' = true := by
  intro u h
  simp at h
  rcases h with rfl | rfl | rfl | rfl <;> rfl
theorem ext_keeps {W W' : World} (x : Ext W W') : KeepsOthers W W' := ⟨x.size, fun _ _ hk _ => (x.blk (Array.getElem?_eq_some_iff.1 hk).1).trans hk⟩
theorem DV.badly {w : World} {b : Nat} {d : Dr} (h : DV w b d) (q : Int) : DV (w.setCell ⟨b, 8, none⟩ (.int .i64 q)) b { d with bad := q } := by
  obtain ⟨⟨h0, h1, h2, h3, h4, h5, h6, h7, h8⟩, f0, f1, f2, f3, f4, f5, f6, f7, f8⟩ := h
  simp only [Nat.zero_add] at h0 h1 h2 h3 h4 h5 h6 h7 h8
  refine ⟨⟨?_, ?_, ?_, ?_, ?_, ?_, ?_, ?_, ?_⟩, ?_, ?_, ?_, ?_, ?_, ?_, ?_, ?_, ?_⟩ <;> simp [go_sem, h0, h1, h2, h3, h4, h5, h6, h7, h8, f0, f1, f2, f3, f4, f5, f6, f7, f8]
section
variable {w W W2 : World} {d : Dr} {C : Nat → B8} {P P' : List Nat}
theorem SI.ext (h : SI w d C W P) (x : Ext W W2) (e : smps C d.bad P' = smps C d.bad P) : SI w d C W2 P' := by
  obtain ⟨v, r1, r2, r3⟩ := h.r
  exact ⟨h.x.trans x, by have := x.size; have := h.sz; omega, by rw [e]; exact h.dv.ext x, h.z.ext x, v, x.keepc r1, x.keepf r1 r2, by rw [e]; exact drow_ext r3 x⟩
theorem SI.badly (h : SI w d C W P) (x : Ext W W2) (q : Int) (e : smps C d.bad P' = ((smps C d.bad P).1, q)) : SI w d C (W2.setCell ⟨w.heap.size, 8, none⟩ (.int .i64 q)) P' ∧ KeepsOthers W (W2.setCell ⟨w.heap.size, 8, none⟩ (.int .i64 q)) ∧ Tn (ownS w.heap.size) W (W2.setCell ⟨w.heap.size, 8, none⟩ (.int .i64 q)) := by
  obtain ⟨v, r1, r2, r3⟩ := h.r
  have t : Tn (fun k => k = w.heap.size) W2 (W2.setCell ⟨w.heap.size, 8, none⟩ (.int .i64 q)) := (Tn.refl (fun k => k = w.heap.size) W2).set (.inl rfl) _ _
  refine ⟨⟨(h.x.trans x).new (Nat.le_refl _) _ _, by have := t.size; have := x.size; have := h.sz; omega, ?_, (h.z.ext x).tn t (by omega), v, t.keepc (by omega) (x.keepc r1), t.keepf (by omega) (x.keepc r1) (x.keepf r1 r2), ?_⟩, (ext_keeps x).trans (KeepsOthers.setCell _ _ _), (Tn.of_ext x).trans t (fun i _ e => .inl e)⟩
  · rw [e]; exact (h.dv.ext x).badly q
  · rw [e]; exact drow_tn (drow_ext r3 x) t (fun k hk _ e => by omega)
theorem SI.push (h : SI w d C W P) (x : Ext W W2) {W4 : World} {va : Option Addr} {n vc : Nat} {v' : Value} {r : Raw} (hv : W.ownsRow (w.heap.size + 5) 72 4 (.slice va n vc) (smps C d.bad P).1.length (rvs (smps C d.bad P).1)) (h1 : W.cell? ⟨w.heap.size + 1 + 1, 0, none⟩ = some (.slice va n vc)) (h2 : W.frozen? ⟨w.heap.size + 1 + 1, 0, none⟩ = false)
    (ho : W4.ownsRow (w.heap.size + 5) 72 4 v' ((smps C d.bad P).1.length + 1) (rvs (smps C d.bad P).1 ++ [(.int .i64 r.x : Value), .int .i64 r.y, .int .i64 r.z, .int .i64 r.t])) (hg : W2.grownBy W4 (Value.slice va n vc).ownBlock) (e : smps C d.bad P' = ((smps C d.bad P).1 ++ [r], (smps C d.bad P).2)) :
    SI w d C (W4.setCell ⟨w.heap.size + 1 + 1, 0, none⟩ v') P' ∧ KeepsOthers W (W4.setCell ⟨w.heap.size + 1 + 1, 0, none⟩ v') ∧ Tn (ownS w.heap.size) W (W4.setCell ⟨w.heap.size + 1 + 1, 0, none⟩ v') := by
  have hv2 := drow_ext hv x
  have hob : ∀ k, (Value.slice va n vc).ownBlock = some k → w.heap.size + 5 ≤ k := fun k hk => (hv.lt k hk).1
  have t1 : Tn (fun k => w.heap.size + 5 ≤ k) W2 W4 := (Tn.refl _ W2).grown hg (fun k hk => .inl (hob k hk))
  have t2 : Tn (fun k => k = w.heap.size + 1 + 1) W4 (W4.setCell ⟨w.heap.size + 1 + 1, 0, none⟩ v') := (Tn.refl (fun k => k = w.heap.size + 1 + 1) W4).set (.inl rfl) _ _
  have c4 : W4.cell? ⟨w.heap.size + 1 + 1, 0, none⟩ = some (.slice va n vc) := t1.keepc (by omega) (x.keepc h1)
  refine ⟨⟨((Tn.below t1 (h.x.trans x) (fun i hi => by omega))).new (by omega) _ _, by have := t1.size; have := t2.size; have := x.size; have := h.sz; omega, ?_, (((h.z.ext x).tn t1 (by omega)).tn t2 (by omega)), v', ?_, ?_, ?_⟩, ?_, ?_⟩
  · rw [e]; exact ((h.dv.ext x).tn t1 (by omega)).tn t2 (by omega)
  · exact World.cell?_setCell_same' _ _ _ (by rw [c4]; rfl)
  · rw [World.frozen?_setCell]; exact t1.keepf (by omega) (x.keepc h1) (x.keepf h1 h2)
  · rw [e, rvs_snoc]
    have := drow_tn ho t2 (fun k hk _ e => by omega)
    simpa using this
  · refine (ext_keeps x).trans (KeepsOthers.trans (KeepsOthers.of_grownBy hg (fun j o hj hjo => ?_)) (KeepsOthers.setCell _ _ _))
    rcases hv2.2 with ⟨e2, _⟩ | ⟨g, cap, cur, hv', _, hgg, _⟩
    · cases e2; simp [Value.ownBlock] at hj
    · cases hv'
      simp only [Value.ownBlock, Option.some.injEq] at hj
      subst hj
      rw [hgg] at hjo
      cases hjo
      rfl
  · exact ((Tn.of_ext x).trans t1 (fun i _ hi => .inr (.inr hi))).trans t2 (fun i _ e => .inr (.inl e))
end
set_option maxRecDepth 20000 in
set_option maxHeartbeats 8000000 in
theorem sampled_any (d : Dr) (g o c m : Nat) (hm : m ≤ 1000) (hcap : 8 * m ≤ c) (C : Nat → B8) (w : World) (hb : 0 ≤ d.bad ∧ d.bad ≤ 1099511627776) (hC : ∀ k, k < m → (C k).ok ∧ ∀ j, j < 8 → w.cell? ⟨g, o + 8 * k + j, none⟩ = some (.int .u8 ((C k).at j))) :
    Calls Try.prog 81 #[drv d, .slice (some ⟨g, o, none⟩) (8 * m) c] w fun e w' => ∃ v, e = .returned (.tuple #[drv (enterD { d with bad := (smps C d.bad (List.range m)).2 } 4), v]) ∧ w'.ownsRow w.heap.size 72 4 v (smps C d.bad (List.range m)).1.length (rvs (smps C d.bad (List.range m)).1) ∧ Ext w w' := by
  obtain ⟨i0, hi, hz0, hz1, hz2⟩ := dinfo
  have HC : Hid (∀ k, k < m → (C k).ok ∧ ∀ j, j < 8 → w.cell? ⟨g, o + 8 * k + j, none⟩ = some (.int .u8 ((C k).at j))) := hC
  have HBd : Hid (0 ≤ d.bad ∧ d.bad ≤ 1099511627776) := hb
  clear hC hb
  refine (callsIn_wide (n := 5)).1 (callsIn_of_wp_marks Try.func81 rfl trivial (wpIn_wide.2 ?_) rfl)
  simp only [Try.ntmps81, List.size_toArray, List.length_cons, List.length_nil, Nat.reduceAdd, Nat.reduceSub, Array.replicate_succ, Array.replicate_zero, List.push_toArray, List.append_toArray, List.nil_append, List.cons_append]
  have hS0 : Hid (SI w d C (((((w.alloc (dro d)).alloc zro').alloc (.cells #[.slice none 0 0] 43)).alloc (.cells #[.slice (some ⟨g, o, none⟩) (8 * m) c] 25)).alloc (.cells #[.int .i64 8] 3)) []) := by
    refine ⟨((((((Ext.refl w).alloc _).alloc _).alloc _).alloc _).alloc _), by simp, ?_, ?_, .slice none 0 0, by simp [go_sem], by simp [go_sem], World.ownsRow_nil _ _ _ _⟩
    · exact (dv_at rfl d).ext (((((Ext.refl _).alloc _).alloc _).alloc _).alloc _)
    · exact (dv_at (by simp) zeroD).ext ((((Ext.refl _).alloc _).alloc _).alloc _)
  have cS : Hid ((((((w.alloc (dro d)).alloc zro').alloc (.cells #[.slice none 0 0] 43)).alloc (.cells #[.slice (some ⟨g, o, none⟩) (8 * m) c] 25)).alloc (.cells #[.int .i64 8] 3)).cell? ⟨w.heap.size + 1 + 1 + 1, 0, none⟩ = some (.slice (some ⟨g, o, none⟩) (8 * m) c) ∧ (((((w.alloc (dro d)).alloc zro').alloc (.cells #[.slice none 0 0] 43)).alloc (.cells #[.slice (some ⟨g, o, none⟩) (8 * m) c] 25)).alloc (.cells #[.int .i64 8] 3)).cell? ⟨w.heap.size + 1 + 1 + 1 + 1, 0, none⟩ = some (.int .i64 8) ∧ (((((w.alloc (dro d)).alloc zro').alloc (.cells #[.slice none 0 0] 43)).alloc (.cells #[.slice (some ⟨g, o, none⟩) (8 * m) c] 25)).alloc (.cells #[.int .i64 8] 3)).heap.size = w.heap.size + 5) := ⟨by simp [go_sem], by simp [go_sem], by simp⟩
  go_wp2_with (go_at_call 98; refine (chunk_any _ _ _ _).mono ?_; rintro e w3 ⟨rfl, rfl⟩)
  generalize (((((w.alloc (dro d)).alloc zro').alloc (.cells #[.slice none 0 0] 43)).alloc (.cells #[.slice (some ⟨g, o, none⟩) (8 * m) c] 25)).alloc (.cells #[.int .i64 8] 3)) = W3 at *
  have hseq := chunk_stops (own := ownS w.heap.size) 4 (by omega) (w.heap.size + 1 + 1 + 1) (w.heap.size + 1 + 1 + 1 + 1) g o c m hm hcap W3 (by unfold ownS; omega) (by unfold ownS; omega) cS.out.1 cS.out.2.1
  have hsz := cS.out.2.2
  refine (wpIn_wide (n := 5)).1 ?_
  refine wpIn_rangeFunc_ownG rfl (by omega) (gf := 108) (lb := #[.pointer (some ⟨w.heap.size + 1 + 1 + 1, 0, none⟩), .pointer (some ⟨w.heap.size + 1 + 1 + 1 + 1, 0, none⟩)]) rfl trivial (enters_of Try.func108 (by kernel_rfl) rfl)
    hseq (fun h1 h2 => h1.trans h2 (fun _ _ o => o)) (fun W l o o' hl hlo ho _ => (Tn.refl _ W).grown (grownBy_putObj' W l o') (fun k e => by cases e; exact .inl (.inr (.inr (by omega))))) (Below.refl _ _) (fun _ => rfl)
    (fun pre W => SI w d C W (pre.map Subtype.val))
    (fun _ _ _ => False)
    (fun s A B' row hs hg hr => hs.grown hg (fun r e => ⟨by have := (hr r e).1; omega, (hr r e).2⟩))
    (fun _ _ _ _ _ hs _ _ => hs)
    hS0.out
    (fun x => { tmps := #[drv d, .slice (some ⟨g, o, none⟩) (8 * m) c, .pointer (some ⟨w.heap.size, 0, none⟩), undef, .pointer (some ⟨w.heap.size + 1, 0, none⟩), .slice none 0 0, .pointer (some ⟨w.heap.size + 1 + 1, 0, none⟩), part8 g o x.1, undef, undef, .slice (some ⟨g, o, none⟩) (8 * m) c, .func (.func 108) #[] #[.pointer (some ⟨w.heap.size + 1 + 1 + 1, 0, none⟩), .pointer (some ⟨w.heap.size + 1 + 1 + 1 + 1, 0, none⟩)], part8 g o x.1, undef, undef, undef, undef, undef, undef, undef, undef, undef, undef, undef, undef, undef, undef, undef, undef, undef, undef, undef, undef], defers := [] }) ?assign ?body ?done ?stop
  case assign =>
    intro l x W K hK
    gi_wp2
    exact hK
  case body =>
    rintro l pre ⟨k, hk⟩ W hS hlen
    have HS : Hid (SI w d C W (pre.map Subtype.val)) := hS
    have HU := unpack_any (C k) (HC.out k hk).1 g (o + 8 * k) 8 (by omega) W (fun j hj => hS.x.keepc ((HC.out k hk).2 j hj))
    have hq := smps_bad C d.bad HBd.out (pre.map Subtype.val)
    have hln := smps_len C d.bad (pre.map Subtype.val)
    rw [List.length_map] at hln
    have emap : (pre ++ [(⟨k, hk⟩ : { x : Nat // x < m })]).map Subtype.val = pre.map Subtype.val ++ [k] := by simp
    have HE : Hid (smps C d.bad (pre.map Subtype.val ++ [k]) = smpStep C (smps C d.bad (pre.map Subtype.val)) k) := smps_snoc _ _ _ _
    obtain ⟨v, r1, r2, r3⟩ := hS.r
    obtain ⟨va, vc, rfl⟩ := drow_form r3
    have HR3 : Hid (W.ownsRow (w.heap.size + 5) 72 4 (.slice va (smps C d.bad (pre.map Subtype.val)).1.length vc) (smps C d.bad (pre.map Subtype.val)).1.length (rvs (smps C d.bad (pre.map Subtype.val)).1)) := r3
    have HR12 : Hid (W.cell? ⟨w.heap.size + 1 + 1, 0, none⟩ = some (.slice va (smps C d.bad (pre.map Subtype.val)).1.length vc) ∧ W.frozen? ⟨w.heap.size + 1 + 1, 0, none⟩ = false) := ⟨r1, r2⟩
    show Code.wpIn (Fence.wide.inRound l) (5 - 1 - 1) Try.prog _ (ownPostG _ _ _ _ _ W) _ W
    have HW : Hid ((∀ W', SI w d C W' (pre.map Subtype.val ++ [k]) → KeepsOthers W W' → Tn (ownS w.heap.size) W W' → ownPostG W3.heap.size (Tn (ownS w.heap.size)) (fun (pre : List { x : Nat // x < m }) W => SI w d C W (pre.map Subtype.val)) (fun _ _ _ => False) (pre ++ [⟨k, hk⟩]) W .normal { tmps := #[], defers := [] } W')) := fun W' h1 h2 h3 => ⟨h2.from _, h3, by show SI w d C W' ((pre ++ [(⟨k, hk⟩ : { x : Nat // x < m })]).map Subtype.val); rw [emap]; exact h1⟩
    clear r1 r2 r3 hS emap
    generalize pre.map Subtype.val = P at *
    by_cases hck : (C k).b7 = ckTo (C k) 7
    · rw [show unpV (C k) = .tuple #[rv (unp (C k)), .bool true] from if_pos hck] at HU
      have HN : Hid (smps C d.bad (P ++ [k]) = ((smps C d.bad P).1 ++ [unp (C k)], (smps C d.bad P).2)) := by show _ = _; rw [HE.out]; exact if_pos hck
      generalize unp (C k) = r at *
      clear hck HE
      have HU2 : Hid (Calls Try.prog 99 #[part8 g o k] W fun e w' => e = .returned (.tuple #[.agg #[.int .i64 r.x, .int .i64 r.y, .int .i64 r.z, .int .i64 r.t], .bool true]) ∧ Ext W w') := HU
      clear HU
      generalize hnn : (smps C d.bad P).1.length = N at *
      have HNN : Hid ((smps C d.bad P).1.length = N) := hnn
      clear hnn
      have HOB : Hid (∀ k, (Value.slice va N vc).ownBlock = some k → w.heap.size + 5 ≤ k) := fun k hk => (HR3.out.lt k hk).1
      have NW : Hid (∀ w1 : World, ∀ j u, [(.int .i64 r.x : Value), .int .i64 r.y, .int .i64 r.z, .int .i64 r.t][j]? = some u → ((w1.alloc (c4o r)).alloc (c4o r)).cell? ((⟨w1.heap.size + 1, 0, none⟩ : Addr).add j) = some u) := fun w1 => by have h := news4 (w1.alloc (c4o r)) r; rw [World.size_alloc] at h; exact h
      have hN1 : N + 1 ≤ maxLen := by unfold maxLen; omega
      have hN2 : (N + 1) * 32 ≤ 140737488355328 := by omega
      gi_wp2_with (first | (refine ⟨trivial, ?_⟩; gi_at_call 99; refine (CallsIn.inRound l (callsIn_wide.2 HU2.out)).mono ?_; rintro e W1 ⟨rfl, x1⟩; have y1 := (x1.alloc (c4o r)).keepc HR12.out.1; have y2 := ((x1.alloc (c4o r)).alloc (c4o r)).keepc HR12.out.1; have XX : Hid (Ext W ((W1.alloc (c4o r)).alloc (c4o r))) := (x1.alloc _).alloc _) | (gi_at_builtin; refine wpListIn_append_own _ rfl _ _ 43 rfl (w.heap.size + 5) 72 i0 _ 4 32 Try.underlying43 hi hz0 hz1 hz2 rfl (by decide) _ N (rvs (smps C d.bad P).1) rfl (drow_ext HR3.out XX.out) ⟨W1.heap.size + 1, 0, none⟩ 1 1 [(.int .i64 r.x : Value), .int .i64 r.y, .int .i64 r.z, .int .i64 r.t] rfl rfl (NW.out _) (news4_one r) hN1 hN2 (Nat.le_trans HS.out.sz XX.out.size) ?_; intro v' w4 hown hgrow _; obtain ⟨a', c', hv'⟩ := drow_form hown; subst hv'; have b1 : w4.cell? ⟨w.heap.size + 1 + 1, 0, none⟩ = some (.slice va N vc) := ((Tn.refl (fun k => w.heap.size + 5 ≤ k) _).grown hgrow (fun k hk => .inl (HOB.out k hk))).keepc (by omega) y2; have b2 : w4.frozen? ⟨w.heap.size + 1 + 1, 0, none⟩ = false := ((Tn.refl (fun k => w.heap.size + 5 ≤ k) _).grown hgrow (fun k hk => .inl (HOB.out k hk))).keepf (by omega) y2 (XX.out.keepf HR12.out.1 HR12.out.2)))
      have hr3 := HR3.out
      rw [← HNN.out] at hr3 hown
      obtain ⟨s1, s2, s3⟩ := HS.out.push (P' := P ++ [k]) XX.out hr3 (by rw [HNN.out]; exact HR12.out.1) HR12.out.2 hown (by rw [HNN.out]; exact hgrow) HN.out
      rw [HNN.out] at s1 s2 s3
      exact HW.out _ s1 s2 s3
    · rw [show unpV (C k) = .tuple #[rv nought, .bool false] from if_neg hck] at HU
      have HN : Hid (smps C d.bad (P ++ [k]) = ((smps C d.bad P).1, if (smps C d.bad P).2 < 1099511627776 then (smps C d.bad P).2 + 1 else (smps C d.bad P).2)) := by show _ = _; rw [HE.out]; exact if_neg hck
      clear hck HE
      have HU2 : Hid (Calls Try.prog 99 #[part8 g o k] W fun e w' => e = .returned (.tuple #[.agg #[.int .i64 0, .int .i64 0, .int .i64 0, .int .i64 0], .bool false]) ∧ Ext W w') := HU
      clear HU
      generalize hqq : (smps C d.bad P).2 = q at *
      have HQ : Hid ((smps C d.bad P).2 = q) := hqq
      have HDV : Hid (DV W w.heap.size { d with bad := q }) := by have := HS.out.dv; rw [hqq] at this; exact this
      clear hqq
      by_cases hlt : q < 1099511627776
      · gi_wp2_with (refine ⟨trivial, ?_⟩; gi_at_call 99; refine (CallsIn.inRound l (callsIn_wide.2 HU2.out)).mono ?_; rintro e W1 ⟨rfl, x1⟩; obtain ⟨⟨c0, c1, c2, c3, c4, c5, c6, c7, c8⟩, f0, f1, f2, f3, f4, f5, f6, f7, f8⟩ := HDV.out.ext (x1.alloc z4o); simp only [Nat.zero_add] at c0 c1 c2 c3 c4 c5 c6 c7 c8)
        have XX : Ext W (W1.alloc z4o) := x1.alloc _
        obtain ⟨s1, s2, s3⟩ := HS.out.badly (P' := P ++ [k]) XX (q + 1) (by rw [HN.out, if_pos hlt])
        exact HW.out _ s1 s2 s3
      · gi_wp2_with (refine ⟨trivial, ?_⟩; gi_at_call 99; refine (CallsIn.inRound l (callsIn_wide.2 HU2.out)).mono ?_; rintro e W1 ⟨rfl, x1⟩; obtain ⟨⟨c0, c1, c2, c3, c4, c5, c6, c7, c8⟩, f0, f1, f2, f3, f4, f5, f6, f7, f8⟩ := HDV.out.ext (x1.alloc z4o); simp only [Nat.zero_add] at c0 c1 c2 c3 c4 c5 c6 c7 c8)
        have XX : Ext W (W1.alloc z4o) := x1.alloc _
        have eN : smps C d.bad (P ++ [k]) = smps C d.bad P := by rw [HN.out, if_neg (by omega), ← HQ.out]
        exact HW.out _ (HS.out.ext (P' := P ++ [k]) XX eN) (ext_keeps XX) (Tn.of_ext XX)
  case done =>
    rintro D ys W hD rfl hS hK
    have hS : SI w d C W ((uptoF m m).map Subtype.val) := hS
    rw [uptoF_val m m (Nat.le_refl _)] at hS
    have HS : Hid (SI w d C W (List.range m)) := hS
    have HD : Hid (w.heap.size + 5 ≤ D) := by show _ ≤ _; omega
    have HK : Hid (W.heap[D]? = some (.deferred (some []))) := hK
    obtain ⟨v, r1, r2, r3⟩ := hS.r
    obtain ⟨va, vc, rfl⟩ := drow_form r3
    have HR3 : Hid (W.ownsRow (w.heap.size + 5) 72 4 (.slice va (smps C d.bad (List.range m)).1.length vc) (smps C d.bad (List.range m)).1.length (rvs (smps C d.bad (List.range m)).1)) := r3
    clear r2 r3 hS hseq hD cS hS0 hsz hK
    have HE : ∀ W', Calls Try.prog 39 #[.agg #[.int .i64 d.addr, .int .i64 d.id, .bool d.want, .int .i64 d.per, .int .i64 d.st, .int .i64 d.fails, .bool d.tried, .int .i64 d.left, .int .i64 (smps C d.bad (List.range m)).2], .int .i64 4] W' fun e w' => e = .returned (.agg #[.int .i64 d.addr, .int .i64 d.id, .bool d.want, .int .i64 d.per, .int .i64 4, .int .i64 0, .bool d.tried, .int .i64 0, .int .i64 (smps C d.bad (List.range m)).2]) ∧ Ext W' w' := enter_any { d with bad := (smps C d.bad (List.range m)).2 } 4
    have HDV0 : DV W w.heap.size ⟨d.addr, d.id, d.want, d.per, d.st, d.fails, d.tried, d.left, (smps C d.bad (List.range m)).2⟩ := HS.out.dv
    obtain ⟨N, hN⟩ : ∃ N, (smps C d.bad (List.range m)).1.length = N := ⟨_, rfl⟩
    have HL : Hid ((smps C d.bad (List.range m)).1.length = N) := hN
    rw [hN] at r1 HR3
    clear hN
    obtain ⟨⟨c0, c1, c2, c3, c4, c5, c6, c7, c8⟩, _⟩ := HS.out.dv
    simp only [Nat.zero_add] at c0 c1 c2 c3 c4 c5 c6 c7 c8
    obtain ⟨q, hq⟩ : ∃ q, (smps C d.bad (List.range m)).2 = q := ⟨_, rfl⟩
    have HQ : Hid ((smps C d.bad (List.range m)).2 = q) := hq
    rw [hq] at HE HDV0 c8
    clear hq
    have HDV : Hid (DV W w.heap.size ⟨d.addr, d.id, d.want, d.per, d.st, d.fails, d.tried, d.left, q⟩) := HDV0
    have HE2 : Hid (∀ W', Ext W W' → Calls Try.prog 39 #[.agg #[.int .i64 d.addr, .int .i64 d.id, .bool d.want, .int .i64 d.per, .int .i64 d.st, .int .i64 d.fails, .bool d.tried, .int .i64 d.left, .int .i64 q], .int .i64 4] W' fun e w' => e = .returned (.agg #[.int .i64 d.addr, .int .i64 d.id, .bool d.want, .int .i64 d.per, .int .i64 4, .int .i64 0, .bool d.tried, .int .i64 0, .int .i64 q]) ∧ Hid (Ext W w') ∧ (w'.cell? ⟨w.heap.size, 0, none⟩ = some (.int .i64 d.addr) ∧ w'.cell? ⟨w.heap.size, 1, none⟩ = some (.int .i64 d.id) ∧ w'.cell? ⟨w.heap.size, 2, none⟩ = some (.bool d.want) ∧ w'.cell? ⟨w.heap.size, 3, none⟩ = some (.int .i64 d.per) ∧ w'.cell? ⟨w.heap.size, 4, none⟩ = some (.int .i64 d.st) ∧ w'.cell? ⟨w.heap.size, 5, none⟩ = some (.int .i64 d.fails) ∧ w'.cell? ⟨w.heap.size, 6, none⟩ = some (.bool d.tried) ∧ w'.cell? ⟨w.heap.size, 7, none⟩ = some (.int .i64 d.left) ∧ w'.cell? ⟨w.heap.size, 8, none⟩ = some (.int .i64 q) ∧ w'.cell? ⟨w.heap.size + 1 + 1, 0, none⟩ = some (.slice va N vc)) ∧ w'.cell? ⟨w.heap.size + 1, 0, none⟩ = some (.int .i64 0) ∧ w'.cell? ⟨w.heap.size + 1, 1, none⟩ = some (.int .i64 0) ∧ w'.cell? ⟨w.heap.size + 1, 2, none⟩ = some (.bool false) ∧ w'.cell? ⟨w.heap.size + 1, 3, none⟩ = some (.int .i64 0) ∧ w'.cell? ⟨w.heap.size + 1, 4, none⟩ = some (.int .i64 0) ∧ w'.cell? ⟨w.heap.size + 1, 5, none⟩ = some (.int .i64 0) ∧ w'.cell? ⟨w.heap.size + 1, 6, none⟩ = some (.bool false) ∧ w'.cell? ⟨w.heap.size + 1, 7, none⟩ = some (.int .i64 0) ∧ w'.cell? ⟨w.heap.size + 1, 8, none⟩ = some (.int .i64 0) ∧ w'.frozen? ⟨w.heap.size + 1, 0, none⟩ = false ∧ w'.frozen? ⟨w.heap.size + 1, 1, none⟩ = false ∧ w'.frozen? ⟨w.heap.size + 1, 2, none⟩ = false ∧ w'.frozen? ⟨w.heap.size + 1, 3, none⟩ = false ∧ w'.frozen? ⟨w.heap.size + 1, 4, none⟩ = false ∧ w'.frozen? ⟨w.heap.size + 1, 5, none⟩ = false ∧ w'.frozen? ⟨w.heap.size + 1, 6, none⟩ = false ∧ w'.frozen? ⟨w.heap.size + 1, 7, none⟩ = false ∧ w'.frozen? ⟨w.heap.size + 1, 8, none⟩ = false) := fun W' x => (HE W').mono fun e w' ⟨h1, h2⟩ => by
      have y := x.trans h2
      obtain ⟨⟨a0, a1, a2, a3, a4, a5, a6, a7, a8⟩, _⟩ := HDV.out.ext y
      obtain ⟨⟨b0, b1, b2, b3, b4, b5, b6, b7, b8⟩, g0, g1, g2, g3, g4, g5, g6, g7, g8⟩ := HS.out.z.ext y
      simp only [Nat.zero_add, zeroD] at a0 a1 a2 a3 a4 a5 a6 a7 a8 b0 b1 b2 b3 b4 b5 b6 b7 b8
      exact ⟨h1, y, ⟨a0, a1, a2, a3, a4, a5, a6, a7, a8, y.keepc r1⟩, b0, b1, b2, b3, b4, b5, b6, b7, b8, g0, g1, g2, g3, g4, g5, g6, g7, g8⟩
    have XD : Hid (Ext W W.drew) := (Ext.refl W).drew
    have n1 : w.heap.size ≠ w.heap.size + 1 := by omega
    have n2 : w.heap.size + 1 ≠ w.heap.size := by omega
    have n3 : w.heap.size + 1 + 1 ≠ w.heap.size + 1 := by omega
    have n4 : w.heap.size + 1 ≠ w.heap.size + 1 + 1 := by omega
    clear HE HDV
    go_upto_region 9 with fail
    go_region_held3 (fun w' => w'.cell? ⟨w.heap.size, 0, none⟩ = some (.int .i64 d.addr) ∧ w'.cell? ⟨w.heap.size, 1, none⟩ = some (.int .i64 d.id) ∧ w'.cell? ⟨w.heap.size, 2, none⟩ = some (.bool d.want) ∧ w'.cell? ⟨w.heap.size, 3, none⟩ = some (.int .i64 d.per) ∧ w'.cell? ⟨w.heap.size, 4, none⟩ = some (.int .i64 d.st) ∧ w'.cell? ⟨w.heap.size, 5, none⟩ = some (.int .i64 d.fails) ∧ w'.cell? ⟨w.heap.size, 6, none⟩ = some (.bool d.tried) ∧ w'.cell? ⟨w.heap.size, 7, none⟩ = some (.int .i64 d.left) ∧ w'.cell? ⟨w.heap.size, 8, none⟩ = some (.int .i64 q) ∧ w'.cell? ⟨w.heap.size + 1 + 1, 0, none⟩ = some (.slice va N vc)) (first | (go_keep; done) | skip) (first | (go_at_call 39; refine (HE2.out _ XD.out).mono ?_; rintro e w5 ⟨rfl, X5, ⟨a0, a1, a2, a3, a4, a5, a6, a7, a8, a9⟩, b0, b1, b2, b3, b4, b5, b6, b7, b8, g0, g1, g2, g3, g4, g5, g6, g7, g8⟩))
    go_wp2_with fail
    have ep : Hid (put9 w5 (w.heap.size + 1) ⟨d.addr, d.id, d.want, d.per, 4, 0, d.tried, 0, q⟩ = (((((((((w5.setCell ⟨w.heap.size + 1, 0, none⟩ (.int .i64 d.addr)).setCell ⟨w.heap.size + 1, 1, none⟩ (.int .i64 d.id)).setCell ⟨w.heap.size + 1, 2, none⟩ (.bool d.want)).setCell ⟨w.heap.size + 1, 3, none⟩ (.int .i64 d.per)).setCell ⟨w.heap.size + 1, 4, none⟩ (.int .i64 4)).setCell ⟨w.heap.size + 1, 5, none⟩ (.int .i64 0)).setCell ⟨w.heap.size + 1, 6, none⟩ (.bool d.tried)).setCell ⟨w.heap.size + 1, 7, none⟩ (.int .i64 0)).setCell ⟨w.heap.size + 1, 8, none⟩ (.int .i64 q))) := rfl
    rw [← ep.out]
    have t6 : Tn (fun k => k = w.heap.size + 1) w5 (put9 w5 (w.heap.size + 1) ⟨d.addr, d.id, d.want, d.per, 4, 0, d.tried, 0, q⟩) := tn_put9 _ _ _
    have d6 := (HS.out.z.ext X5.out).put9 ⟨d.addr, d.id, d.want, d.per, 4, 0, d.tried, 0, q⟩
    have x6 : Ext w (put9 w5 (w.heap.size + 1) ⟨d.addr, d.id, d.want, d.per, 4, 0, d.tried, 0, q⟩) := (HS.out.x.trans X5.out).put9 (Nat.le_succ _) _
    have r6 := drow_tn (drow_ext HR3.out X5.out) t6 (fun k hk _ e => by omega)
    have hD6 := HD.out
    have hK5 := (X5.out.blk (Array.getElem?_eq_some_iff.1 HK.out).1).trans HK.out
    have hK6 := (t6.2 D (Array.getElem?_eq_some_iff.1 hK5).1 (by omega)).trans hK5
    clear ep t6
    generalize put9 w5 (w.heap.size + 1) ⟨d.addr, d.id, d.want, d.per, 4, 0, d.tried, 0, q⟩ = w6 at *
    have t7 : Tn (fun k => k = D) w6 (w6.putObj D (.deferred none)) := (Tn.refl (fun k => k = D) w6).grown (grownBy_putObj' w6 D (.deferred none)) (fun k e => by cases e; exact .inl rfl)
    have d7 := d6.tn t7 (by omega)
    have r7 := drow_tn r6 t7 (fun k _ hk e => by
      subst e
      rcases r6.2 with ⟨e2, _⟩ | ⟨g', cap, cur, hv', _, hgg, _⟩
      · cases e2; simp [Value.ownBlock] at hk
      · cases hv'
        simp only [Value.ownBlock, Option.some.injEq] at hk
        subst hk
        rw [hgg] at hK6
        cases hK6)
    have x7 : Ext w (w6.putObj D (.deferred none)) := t7.below x6 (fun i e => by omega)
    obtain ⟨⟨y0, y1, y2, y3, y4, y5, y6, y7, y8⟩, _⟩ := d7
    simp only [Nat.zero_add] at y0 y1 y2 y3 y4 y5 y6 y7 y8
    refine ⟨by simp, .inl ⟨_, _, rfl, run_takeDeferred hK6, ?_⟩⟩
    refine ⟨.tuple #[.agg #[.int .i64 d.addr, .int .i64 d.id, .bool d.want, .int .i64 d.per, .int .i64 4, .int .i64 0, .bool d.tried, .int .i64 0, .int .i64 q], .slice va N vc], ?_, .slice va N vc, by rw [HQ.out]; rfl, ?_, x7⟩
    · simp [results, Try.results81, go_sem, y0, y1, y2, y3, y4, y5, y6, y7, y8]
    · rw [HL.out]
      obtain ⟨q1, q2⟩ := r7
      refine ⟨q1, ?_⟩
      rcases q2 with e2 | ⟨g', cap, cur, hv', hb', hr'⟩
      · exact .inl e2
      · exact .inr ⟨g', cap, cur, hv', by omega, hr'⟩
  case stop =>
    rintro D cd pre W _ _ h _
    exact h.elim
end Go.Proofs.Ytdfhhfpfnkjbnaa
