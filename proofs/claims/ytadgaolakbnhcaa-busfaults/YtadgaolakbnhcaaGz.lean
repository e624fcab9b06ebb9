/- BusFaults: its walk. -/
import Derived.Test.YtadgaolakbnhcaaGy
import Derived.Test.YtadgaolakbnhcaaGx
namespace Go.Proofs.Ytadgaolakbnhcaa
open Go.RowKit Go.Conc
abbrev Ef : TypeId := 69
def flF : List Flt → List Value
  | [] => []
  | f :: l => .int .i64 f.at_ :: .int .i64 f.kind :: .int .i64 f.idx :: .int .u8 f.xor :: flF l
theorem flF_app : ∀ l m : List Flt, flF (l ++ m) = flF l ++ flF m
  | [], _ => rfl
  | f :: l, m => by simp [flF, flF_app l m]
theorem flF_len : ∀ l : List Flt, (flF l).length = l.length * 4
  | [] => rfl
  | f :: l => by simp [flF, flF_len l]; omega
theorem flF_at : ∀ (l : List Flt) (i : Nat), i < l.length → (flF l)[i * 4]? = some (.int .i64 (gf l i).at_) ∧ (flF l)[i * 4 + 1]? = some (.int .i64 (gf l i).kind) ∧ (flF l)[i * 4 + 2]? = some (.int .i64 (gf l i).idx) ∧ (flF l)[i * 4 + 3]? = some (.int .u8 (gf l i).xor)
  | [], i, h => by simp at h
  | f :: l, 0, _ => ⟨rfl, rfl, rfl, rfl⟩
  | f :: l, i + 1, h => by
    have := flF_at l i (by simpa using h)
    rw [show (i + 1) * 4 = i * 4 + 1 + 1 + 1 + 1 by omega]
    simpa [flF, gf] using this
theorem frs_row {w : World} {B n cap : Nat} {a : Option Addr} {l : List Flt} (h : w.ownsRow B Ef 4 (.slice a n cap) n (flF l)) : FRs w a l := by
  intro i hi
  have hl := h.1
  rw [flF_len] at hl
  rcases h.2 with ⟨_, e2⟩ | ⟨g, cap', cur, e1, _⟩
  · omega
  · cases e1
    obtain ⟨q0, q1, q2, q3⟩ := flF_at l i hi
    refine ⟨g, 0, rfl, ?_, ?_, ?_, ?_⟩ <;> (rw [Nat.zero_add, h.cellAt _ (by omega)]; assumption)
theorem Try.infoTf : (Try.prog.info? Ef).map (fun i => (i.zero, i.size, i.bytes)) = some (some (.agg #[.int .i64 0, .int .i64 0, .int .i64 0, .int .u8 0]), 4, 32) := by kernel_rfl
/-- those of the first k that refuse nothing -/
def sel (F : List Flt) : Nat → List Flt
  | 0 => []
  | k + 1 => if (gf F k).kind = 1 then sel F k else sel F k ++ [gf F k]
theorem sel_len (F : List Flt) : ∀ k, (sel F k).length ≤ k
  | 0 => Nat.le_refl _
  | k + 1 => by
    have := sel_len F k
    unfold sel
    split
    · omega
    · simp; omega
theorem sel_mem (F : List Flt) : ∀ k, k ≤ F.length → ∀ f ∈ sel F k, f ∈ F ∧ f.kind ≠ 1
  | 0, _, f, h => by cases h
  | k + 1, hk, f, h => by
    have es : sel F (k + 1) = if (gf F k).kind = 1 then sel F k else sel F k ++ [gf F k] := rfl
    rw [es] at h
    split at h
    · exact sel_mem F k (by omega) f h
    · rcases List.mem_append.1 h with q | q
      · exact sel_mem F k (by omega) f q
      · have e : f = gf F k := by simpa using q
        subst e
        refine ⟨?_, by assumption⟩
        have : gf F k = F[k] := by simp [gf, show k < F.length by omega]
        rw [this]; exact List.getElem_mem _
theorem four_new (w : World) (a b c d : Value) (T : TypeId) : ∀ j x, [a, b, c, d][j]? = some x → (w.alloc (.cells #[a, b, c, d] T)).cell? ((⟨w.heap.size, 0, none⟩ : Addr).add j) = some x := by
  intro j y h
  match j, h with
  | 0, h => simp at h; subst h; simp [Addr.add, go_sem]
  | 1, h => simp at h; subst h; simp [Addr.add, go_sem]
  | 2, h => simp at h; subst h; simp [Addr.add, go_sem]
  | 3, h => simp at h; subst h; simp [Addr.add, go_sem]
  | j + 4, h => simp at h
/-- a variable of an Act -/
theorem a6_new {w : World} {x : Ac} {wa : Option Addr} {wc : Nat} : A6 (w.alloc (.cells #[.int .i64 x.do_, .int .i64 x.addr, .int .i64 x.reg, .slice wa x.wr.length wc, .int .i64 x.rd, .int .i64 x.n] 46)) w.heap.size 0 x wa wc := by
  refine ⟨?_, ?_, ?_, ?_, ?_, ?_⟩ <;> simp [go_sem]
def hitTo (G : List Flt) (n : Int) : Nat → Bool
  | 0 => false
  | k + 1 => hitTo G n k || ((gf G k).at_ == n)
theorem hit_none (G : List Flt) (n : Int) : ∀ k, k ≤ G.length → hitTo G n k = false → flt (G.take k) n = none
  | 0, _, _ => by simp [flt]
  | k + 1, hk, h => by
    unfold hitTo at h
    rw [Bool.or_eq_false_iff] at h
    rw [take_gf G (by omega), flt_app, hit_none G n k (by omega) h.1, if_pos rfl, if_neg]
    have := h.2
    simp at this
    exact fun e => this e.symm
theorem hit_flt (G : List Flt) (n : Int) (h : hitTo G n G.length = false) : flt G n = none := by
  have := hit_none G n G.length (Nat.le_refl _) h
  rwa [List.take_length] at this
/-- what both buses are like between two acts -/
structure FI (wb wr : World) (y1 : BA) (s1 : Bs) (y2 : BA) (s2 : Bs) (G : List Flt) : Prop where
  t : Two wb wr y1 s1 y2 s2
  e : EqB s1 s2
  f1 : s1.F = fsts G G.length
  f2 : s2.F = []
theorem FI.ext {wb wr w' : World} {y1 y2 : BA} {s1 s2 : Bs} {G : List Flt} (h : FI wb wr y1 s1 y2 s2 G) (x : Ext wr w') : FI wb w' y1 s1 y2 s2 G := ⟨h.t.ext x, h.e, h.f1, h.f2⟩
theorem FI.kind {wb wr : World} {y1 y2 : BA} {s1 s2 : Bs} {G : List Flt} (h : FI wb wr y1 s1 y2 s2 G) (hG : ∀ f ∈ G, okF f = true ∧ f.kind ≠ 1) :
    s1.flt = (flt G (wrap64 (s1.cnt + 1))).getD noF ∧ s1.flt.kind ≠ 1 ∧ (∀ k, 0 ≤ ((flt s1.F k).getD noF).idx) ∧ ∀ k, 0 ≤ ((flt s2.F k).getD noF).idx := by
  have e1 : ∀ k, flt s1.F k = flt G k := fun k => by rw [h.f1, flt_all]
  have e2 : s1.flt = (flt G (wrap64 (s1.cnt + 1))).getD noF := by unfold Bs.flt; rw [e1]
  refine ⟨e2, ?_, fun k => ?_, (no_flt s2 h.f2).2⟩
  · rw [e2]
    cases e : flt G (wrap64 (s1.cnt + 1)) with
    | none => show (0 : Int) ≠ 1; omega
    | some f => exact (hG f (flt_mem e).1).2
  · rw [e1]
    cases e : flt G k with
    | none => exact Int.le_refl _
    | some f =>
      have := (hG f (flt_mem e).1).1
      unfold okF at this
      simp only [Bool.and_eq_true, decide_eq_true_eq] at this
      exact this.2.2
theorem FI.tick1 {wb wr : World} {y1 y2 : BA} {s1 s2 : Bs} {G : List Flt} (h : FI wb wr y1 s1 y2 s2 G) (n : Nat) (hn : n ≤ 1000) :
    Calls Try.prog 16 #[.pointer (some ⟨y1.b, 0, none⟩), .int .i64 n] wr fun e w' => e = .returned (.int .i64 0) ∧ Hid (Two wb w' y1 (tickB s1 n) y2 s2) := by
  refine (tick_b wr h.t.a.b n hn).mono ?_
  rintro e w' ⟨rfl, d⟩
  exact ⟨rfl, h.t.one d⟩
theorem two_tick2 {wb wr : World} {y1 y2 : BA} {s1 s2 : Bs} (h : Two wb wr y1 s1 y2 s2) (n : Nat) (hn : n ≤ 1000) :
    Calls Try.prog 16 #[.pointer (some ⟨y2.b, 0, none⟩), .int .i64 n] wr fun e w' => e = .returned (.int .i64 0) ∧ Hid (Two wb w' y1 s1 y2 (tickB s2 n)) := by
  refine (tick_b wr h.b.b n hn).mono ?_
  rintro e w' ⟨rfl, d⟩
  exact ⟨rfl, h.two d⟩
set_option maxRecDepth 20000 in
set_option maxHeartbeats 8000000 in
theorem faults_any (w : World) (am : Option Addr) (M : List Md) (cm : Nat) (af : Option Addr) (F : List Flt) (cf : Nat) (al : Option Addr) (L : List Ac) (cl : Nat) (hM : MRs w am M) (hl : M.length ≤ maxLen) (hF : FRs w af F) (hl2 : F.length ≤ maxLen) (hA : ARs w al L) :
    Calls Try.prog 5 #[scv am M.length cm af F.length cf al L.length cl] w fun e w' => e = .returned (.bool true) ∧ Ext w w' := by
  have x0 : Ext w (w.alloc (scc am M.length cm af F.length cf al L.length cl)) := (Ext.refl w).alloc _
  have hS : SC (w.alloc (scc am M.length cm af F.length cf al L.length cl)) w.heap.size am M.length cm af F.length cf al L.length cl := sc_new
  have HH := heavy_any _ am M cm af F.length cf (hM.ext x0) hl
  have HY := may_any _ am M cm af F cf (hM.ext x0) hl (hF.ext x0) hl2
  have HA : Hid (∀ wr, Ext (w.alloc (scc am M.length cm af F.length cf al L.length cl)) wr → ARs wr al L) := fun wr x => (hA.ext x0).ext x
  have HMM : Hid (∀ wr, Ext (w.alloc (scc am M.length cm af F.length cf al L.length cl)) wr → MRs wr am M) := fun wr x => (hM.ext x0).ext x
  have HFF : Hid (∀ wr, Ext (w.alloc (scc am M.length cm af F.length cf al L.length cl)) wr → FRs wr af F) := fun wr x => (hF.ext x0).ext x
  have HX0 : Hid (Ext w (w.alloc (scc am M.length cm af F.length cf al L.length cl))) := x0
  have HNU : Hid (∀ v w', Calls Try.prog 11 #[.int .i64 v] w' fun e w'' => e = .returned (.int .i64 v) ∧ w'' = w') := num_any
  have HLM : Hid (M.length ≤ maxLen ∧ F.length ≤ maxLen) := ⟨hl, hl2⟩
  obtain ⟨i0, hi, hz0, hz1, hz2⟩ := info_parts Try.infoTf
  unfold maxLen at hl hl2
  clear hM hA hF x0
  obtain ⟨s0, s1, s2⟩ := id hS
  have HS : Hid (SC (w.alloc (scc am M.length cm af F.length cf al L.length cl)) w.heap.size am M.length cm af F.length cf al L.length cl) := hS
  clear hS
  go_enter Try.func5, Try.ntmps5
  go_upto_region 1 with fail
  generalize w.alloc (scc am M.length cm af F.length cf al L.length cl) = w0 at *
  generalize w.heap.size = B at *
  cases hhv : heavyB F.length M <;> rw [hhv] at HH
  · cases hok : okMs M && okFs F <;> rw [hok] at HY
    · go_wp2_with (first | (go_at_call 7; refine HH.mono ?_; rintro e wx ⟨rfl, hwx⟩; have hwy := hwx.symm; clear hwx; subst hwy) | (go_at_call 10; refine HY.mono ?_; rintro e w1 ⟨rfl, x1⟩))
      go_ret
      exact ⟨rfl, HX0.out.trans x1⟩
    · have hk2 : okMs M = true ∧ okFs F = true := by simpa using hok
      have hF4 : F.length ≤ 4096 ∧ F.all okF = true := by
        have := hk2.2
        unfold okFs at this
        simpa using this
      have HOK : Hid (okMs M = true ∧ F.all okF = true) := ⟨hk2.1, hF4.2⟩
      have hF5 : F.length ≤ 4096 := hF4.1
      clear hok hk2 hF4
      go_upto_region 4 with (first | (go_at_call 7; refine HH.mono ?_; rintro e wx ⟨rfl, hwx⟩; have hwy := hwx.symm; clear hwx; subst hwy) | (go_at_call 10; refine HY.mono ?_; rintro e w1 ⟨rfl, x1⟩))
      go_wp2_with fail
      have H0 : Hid (Ext w0 w1) := x1
      clear x1 s0 s1 s2 HH HY hhv
      go_loopw [3, 4] (fun v i wr => ∃ (k : Nat) (va : Option Addr) (vc : Nat), k ≤ F.length ∧ i = .int .i64 k ∧ v = .slice va (sel F k).length vc ∧ Hid (Ext w0 wr ∧ wr.ownsRow w0.heap.size Ef 4 (.slice va (sel F k).length vc) (sel F k).length (flF (sel F k)))) (fun _ i _ => F.length - (intOf i).toNat)
      case atStart => exact ⟨0, none, 0, Nat.zero_le _, rfl, rfl, H0.out, World.ownsRow_nil _ _ _ _⟩
      case round =>
        obtain ⟨k, va, vc, hk, rfl, rfl, hR⟩ := hrel
        obtain ⟨p0, p1, p2⟩ := HS.out.ext hR.out.1
        by_cases hlt : k < F.length
        · have hlti : (k : Int) < (F.length : Int) := by omega
          obtain ⟨b2, o2, rfl, k0, k1, k2, k3⟩ := HFF.out _ hR.out.1 k hlt
          have es : Hid (sel F (k + 1) = if (gf F k).kind = 1 then sel F k else sel F k ++ [gf F k]) := rfl
          have hsl := sel_len F k
          generalize hG1 : sel F (k + 1) = G1 at *
          have HG1 : Hid (sel F (k + 1) = G1) := hG1
          clear hG1
          generalize sel F k = G at *
          generalize gf F k = f at *
          obtain ⟨f0, f1, f2, f3⟩ := f
          simp only at *
          by_cases h1 : f1 = 1
          · subst h1
            have eG : Hid (sel F (k + 1) = G) := by show _ = _; rw [HG1.out, es.out]; rfl
            go_wp2_with fail
            go_roundw
            case measure => simp [intOf]; omega
            case rel => exact ⟨k + 1, va, vc, by omega, by simp, by rw [eG.out], by rw [eG.out]; exact hR⟩
          · have h1b : (f1 == 1) = false := by simpa using h1
            have eG : Hid (sel F (k + 1) = G ++ [⟨f0, f1, f2, f3⟩]) := by show _ = _; rw [HG1.out, es.out, if_neg h1]
            have h63 : G.length + 1 ≤ maxLen := by unfold maxLen; omega
            have hby : (G.length + 1) * 32 ≤ 140737488355328 := by omega
            have hown := hR.out.2
            have hX := hR.out.1
            have hle : w0.heap.size ≤ wr.heap.size + 1 := by have := hX.size; omega
            go_wp2_with (at_builtin; refine wpList_append_lies _ rfl (.tmp 46) (.tmp 52) 23 rfl w0.heap.size Ef i0 (.agg #[.int .i64 0, .int .i64 0, .int .i64 0, .int .u8 0]) 4 32 Try.underlying23 hi hz0 hz1 hz2 rfl (by decide) _ G.length (flF G) rfl (by exact hown.alloc _) ⟨wr.heap.size, 0, none⟩ 1 1 [.int .i64 f0, .int .i64 f1, .int .i64 f2, .int .u8 f3] rfl rfl (by exact four_new wr _ _ _ _ _) (by simp [Value.oneCell']) (by decide) h63 hby (by simpa using hle) (wr.heap.size + 1) (by simp) ?_; intro g' cap' w9 hown' hg' hgb hgl; have R1 : Hid (Ext w0 w9 ∧ w9.ownsRow w0.heap.size Ef 4 (.slice (some ⟨g', 0, none⟩) (G.length + 1) cap') (G.length + 1) (flF (G ++ [⟨f0, f1, f2, f3⟩]))) := (by refine ⟨row_grown hg' (hown.alloc _) (hX.alloc _) (Nat.le_refl _), ?_⟩; rw [flF_app]; exact hown'); clear hown' hg' hgb hgl hown hX)
            go_roundw
            case measure => simp [intOf]; omega
            case rel => exact ⟨k + 1, some ⟨g', 0, none⟩, cap', by omega, by simp, by rw [eG.out]; simp, by rw [eG.out]; rw [List.length_append]; exact R1⟩
        · have hlti : ¬ (k : Int) < (F.length : Int) := by omega
          have hkl : k = F.length := by omega
          go_upto_region 9 with fail
          have HR : Hid (Ext w0 wr ∧ wr.ownsRow w0.heap.size Ef 4 (.slice va (sel F F.length).length vc) (sel F F.length).length (flF (sel F F.length))) := by
            rw [← hkl]; exact hR
          have HGM : Hid (∀ f ∈ sel F F.length, okF f = true ∧ f.kind ≠ 1) := fun f hf => by
            have q := sel_mem F F.length (Nat.le_refl _) f hf
            exact ⟨List.all_eq_true.1 HOK.out.2 f q.1, q.2⟩
          have hGl := sel_len F F.length
          subst hkl
          clear hR
          generalize sel F F.length = G at *
          have HOF : Hid ((okMs M && okFs G) = true) := by
            show _ = _
            rw [HOK.out.1]
            unfold okFs
            rw [show decide (G.length ≤ 4096) = true by simp; omega, show G.all okF = true from List.all_eq_true.2 (fun f hf => (HGM.out f hf).1)]; rfl
          have HOE : Hid ((okMs M && okFs []) = true) := by show _ = _; rw [HOK.out.1]; rfl
          have HFG : Hid (∀ w', Ext wr w' → FRs w' va G) := fun w' x => (frs_row HR.out.2).ext x
          have HN1 : Hid (Calls Try.prog 9 #[.slice am M.length cm, .slice va G.length vc] wr fun e w' => ∃ y : BA, e = .returned (.tuple #[.pointer (some ⟨y.b, 0, none⟩), .int .i64 0]) ∧ Hid (Rg wr w' y (newB M G))) := by
            refine (busnew_any wr am M cm va G vc (HMM.out _ HR.out.1) HLM.out.1 (HFG.out _ (Ext.refl _)) (by unfold maxLen; omega)).mono ?_
            rintro e w' ⟨x2, _, hy⟩
            obtain ⟨y, he, hb, hf⟩ := hy HOF.out
            exact ⟨y, he, x2, hb, hf⟩
          have HN2 : Hid (∀ w1 y1, Rg wr w1 y1 (newB M G) → Calls Try.prog 9 #[.slice am M.length cm, .slice none 0 0] w1 fun e w' => ∃ y : BA, e = .returned (.tuple #[.pointer (some ⟨y.b, 0, none⟩), .int .i64 0]) ∧ Hid (FI wr w' y1 (newB M G) y (newB M []) G)) := fun w1 y1 g1 => by
            refine (busnew_any w1 am M cm none [] 0 (HMM.out _ (HR.out.1.trans g1.x)) HLM.out.1 (frs_nil _ _) (by simp [maxLen])).mono ?_
            rintro e w' ⟨x2, _, hy⟩
            obtain ⟨y, he, hb, hf⟩ := hy HOE.out
            have gs := g1.x.size
            exact ⟨y, he, ⟨g1.ext x2, ⟨g1.x.trans x2, hb, fun k o => by have := hf k o; omega⟩, fun k o q => by have := g1.b.lt k o; have := hf k q; omega⟩, ⟨rfl, fun _ _ => rfl, rfl⟩, rfl, rfl⟩
          generalize wr = wb at *
          go_upto_region 10 with (go_at_call 9; refine HN1.out.mono ?_; rintro e w2 ⟨y1, rfl, h2⟩)
          clear p0 p1 p2
          obtain ⟨p0, p1, p2⟩ := HS.out.ext (HR.out.1.trans h2.out.x)
          have HN3 := HN2.out _ _ h2.out
          go_upto_region 11 with (go_at_call 9; refine HN3.mono ?_; rintro e w3 ⟨y2, rfl, h3⟩)
          clear p0 p1 p2 HN1 HN2 HN3 h2
          go_upto_region 13 with (go_at_call 11; refine (HNU.out _ _).mono ?_; rintro e wx ⟨rfl, hwx⟩; have hwy := hwx.symm; clear hwx; subst hwy)
          have HC0 : Hid ((newB M G).cnt = 0) := rfl
          generalize newB M G = sA at *
          generalize newB M [] = sB at *
          go_wp2_with fail
          have HW0 : Hid (Ext w0 wb) := HR.out.1
          have HC00 : Hid (Value.int IntKind.i64 0 = Value.int IntKind.i64 sA.cnt) := by show _ = _; rw [HC0.out]
          clear HR HC0 H0
          go_loopw [9, 10, 11, 12, 13, 14, 15, 16, 17, 18] (fun c i _ _ _ _ _ _ _ _ wi => ∃ (k : Nat) (s1 s2 : Bs), k ≤ L.length ∧ k ≤ 40 ∧ i = .int .i64 k ∧ c = .int .i64 s1.cnt ∧ Hid (FI wb wi y1 s1 y2 s2 G)) (fun _ i _ _ _ _ _ _ _ _ _ => 40 - (intOf i).toNat)
          case atStart => exact ⟨0, sA, sB, Nat.zero_le _, Nat.zero_le _, rfl, HC00.out, h3⟩
          case round =>
            obtain ⟨k, s1, s2, hk, hk40, rfl, rfl, hI⟩ := hrel
            have xw0 := HW0.out.trans hI.out.t.a.x
            obtain ⟨p0, p1, p2⟩ := HS.out.ext xw0
            by_cases hlt : k < L.length
            · have hlti : (k : Int) < (L.length : Int) := by omega
              by_cases h40 : k < 40
              · have h40i : (k : Int) < 40 := by omega
                obtain ⟨ba, oa, wa, wc, rfl, ha6, hbr0, hwl, hn1, hn2, hwk⟩ := HA.out w0 (Ext.refl _) k hlt
                have hbr := hbr0.ext xw0
                obtain ⟨d0, d1, d2, d3, d4, d5⟩ := ha6.ext xw0
                clear hbr0 ha6
                generalize ga L k = x at *
                obtain ⟨dd, ad, rg, wl, rd, nn⟩ := x
                simp only at *
                have x1 : Ext wr (wr.alloc (.cells #[.int .i64 dd, .int .i64 ad, .int .i64 rg, .slice wa wl.length wc, .int .i64 rd, .int .i64 nn] 46)) := (Ext.refl wr).alloc _
                have hV : A6 (wr.alloc (.cells #[.int .i64 dd, .int .i64 ad, .int .i64 rg, .slice wa wl.length wc, .int .i64 rd, .int .i64 nn] 46)) wr.heap.size 0 ⟨dd, ad, rg, wl, rd, nn⟩ wa wc := a6_new (w := wr) (x := ⟨dd, ad, rg, wl, rd, nn⟩)
                have HV : Hid (A6 (wr.alloc (.cells #[.int .i64 dd, .int .i64 ad, .int .i64 rg, .slice wa wl.length wc, .int .i64 rd, .int .i64 nn] 46)) wr.heap.size 0 ⟨dd, ad, rg, wl, rd, nn⟩ wa wc) := hV
                have H1 : Hid (FI wb (wr.alloc (.cells #[.int .i64 dd, .int .i64 ad, .int .i64 rg, .slice wa wl.length wc, .int .i64 rd, .int .i64 nn] 46)) y1 s1 y2 s2 G) := hI.out.ext x1
                have HB1 : Hid (BR (wr.alloc (.cells #[.int .i64 dd, .int .i64 ad, .int .i64 rg, .slice wa wl.length wc, .int .i64 rd, .int .i64 nn] 46)) wa wl) := hbr.ext x1
                obtain ⟨q8, hq8, HW8⟩ := within_any dd 8 (by omega) (by omega)
                have HV8 : Hid (∀ w, Calls Try.prog 14 #[.int .i64 dd, .int .i64 8] w fun e w' => e = .returned (.int .i64 q8) ∧ w' = w) := HW8
                clear HW8 hbr
                go_upto_region 18 with fail
                clear p0 p1 p2 d0 d1 d2 d3 d4 d5
                obtain ⟨v0, v1, v2, v3, v4, v5⟩ := hV
                generalize wr.alloc (.cells #[.int .i64 dd, .int .i64 ad, .int .i64 rg, .slice wa wl.length wc, .int .i64 rd, .int .i64 nn] 46) = w1 at *
                have HVB : Hid (∀ k, FB y1 k ∨ FB y2 k → k < wr.heap.size) := fun k o => by rcases o with o | o; exact hI.out.t.a.b.lt k o; exact hI.out.t.b.b.lt k o
                generalize wr.heap.size = VB at *
                by_cases h6 : q8 = 6
                · subst h6
                  obtain ⟨qt, hqt, HWT⟩ := within_any nn 300 (by omega) (by omega)
                  have HVT : Hid (∀ w, Calls Try.prog 14 #[.int .i64 nn, .int .i64 300] w fun e w' => e = .returned (.int .i64 qt) ∧ w' = w) := HWT
                  have HT1 := H1.out.tick1 qt (by omega)
                  have HT2 : Hid (∀ w2, Two wb w2 y1 (tickB s1 qt) y2 s2 → Calls Try.prog 16 #[.pointer (some ⟨y2.b, 0, none⟩), .int .i64 qt] w2 fun e w' => e = .returned (.int .i64 0) ∧ Hid (FI wb w' y1 (tickB s1 qt) y2 (tickB s2 qt) G)) := fun w2 t2 => (two_tick2 t2 qt (by omega)).mono fun e w' ⟨he, h⟩ => ⟨he, h.out, H1.out.e.tick qt, H1.out.f1, H1.out.f2⟩
                  clear HWT
                  go_upto_region 20 with (first | (go_at_call_of 14 (Value.int IntKind.i64 8); refine (HV8.out _).mono ?_; rintro e wx ⟨rfl, hwx⟩; have hwy := hwx.symm; clear hwx; subst hwy) | (go_at_call_of 14 (Value.int IntKind.i64 300); refine (HVT.out _).mono ?_; rintro e wx ⟨rfl, hwx⟩; have hwy := hwx.symm; clear hwx; subst hwy))
                  go_wp2_with (first | (go_at_call_of 16 (Value.pointer (some (Addr.mk y1.b 0 none))); refine HT1.mono ?_; rintro e w2 ⟨rfl, h2⟩) | (go_at_call_of 16 (Value.pointer (some (Addr.mk y2.b 0 none))); refine (HT2.out _ h2.out).mono ?_; rintro e w4 ⟨rfl, h4⟩) | (go_at_call 11; refine (HNU.out _ _).mono ?_; rintro e wx ⟨rfl, hwx⟩; have hwy := hwx.symm; clear hwx; subst hwy))
                  go_roundw
                  case measure => simp [intOf]; omega
                  case rel => exact ⟨k + 1, tickB s1 qt, tickB s2 qt, by omega, by omega, by simp, rfl, h4⟩
                · have h6b : ((q8 : Int) == 6) = false := beq_eq_false_iff_ne.2 (by omega)
                  have HMT := maytx_any ad rg wa wl.length wc rd w1 hwl
                  cases hok : okT ad rg wl.length rd <;> rw [hok] at HMT
                  · go_wp2_with (first | (go_at_call_of 14 (Value.int IntKind.i64 8); refine (HV8.out _).mono ?_; rintro e wx ⟨rfl, hwx⟩; have hwy := hwx.symm; clear hwx; subst hwy) | (go_at_call 20; refine HMT.mono ?_; rintro e w2 ⟨rfl, x2⟩))
                    have R9 : Hid (FI wb w2 y1 s1 y2 s2 G) := H1.out.ext x2
                    go_roundw
                    case measure => simp [intOf]; omega
                    case rel => exact ⟨k + 1, s1, s2, by omega, by omega, by simp, rfl, R9⟩
                  · obtain ⟨rgn, rfl⟩ : ∃ q : Nat, rg = (q : Int) := by
                      unfold okT at hok
                      simp only [Bool.and_eq_true, inn_iff] at hok
                      exact ⟨rg.toNat, by omega⟩
                    obtain ⟨rdn, rfl, hrd⟩ : ∃ q : Nat, rd = (q : Int) ∧ q ≤ 128 := by
                      unfold okT at hok
                      simp only [Bool.and_eq_true] at hok
                      have h3 := hok.2
                      split at h3
                      · simp only [Bool.and_eq_true, decide_eq_true_eq] at h3
                        exact ⟨0, h3.2, by omega⟩
                      · rw [inn_iff] at h3
                        exact ⟨rd.toNat, by omega, by omega⟩
                    have HOT : Hid (okT ad rgn wl.length rdn = true) := hok
                    have hwl' : wl.length ≤ maxLen := hwl
                    clear hok
                    go_upto_region 23 with (first | (go_at_call_of 14 (Value.int IntKind.i64 8); refine (HV8.out _).mono ?_; rintro e wx ⟨rfl, hwx⟩; have hwy := hwx.symm; clear hwx; subst hwy) | (go_at_call 20; refine HMT.mono ?_; rintro e w2 ⟨rfl, x2⟩))
                    have H2 : Hid (FI wb w2 y1 s1 y2 s2 G) := H1.out.ext x2
                    have HB2 : Hid (BR w2 wa wl) := HB1.out.ext x2
                    have HV2 : Hid (A6 w2 VB 0 ⟨dd, ad, rgn, wl, rdn, nn⟩ wa wc) := HV.out.ext x2
                    clear v0 v1 v2 v3 v4 v5 HV HB1 HMT x1
                    obtain ⟨KF1, KF2, KF3, KF4⟩ := H2.out.kind HGM.out
                    have HKF : Hid (s1.flt = (flt G (wrap64 (s1.cnt + 1))).getD noF ∧ s1.flt.kind ≠ 1 ∧ (∀ k, 0 ≤ ((flt s1.F k).getD noF).idx) ∧ ∀ k, 0 ≤ ((flt s2.F k).getD noF).idx) := ⟨KF1, KF2, KF3, KF4⟩
                    clear KF1 KF2 KF3 KF4
                    go_wp2_with fail
                    generalize hcn : wrap64 (s1.cnt + 1) = cn at *
                    have HCN : Hid (wrap64 (s1.cnt + 1) = cn) := hcn
                    clear hcn
                    have HXB : Hid (Ext wb w2) := H2.out.t.a.x
                    go_loopw [13, 14] (fun hb i wi => ∃ t : Nat, t ≤ G.length ∧ i = .int .i64 t ∧ hb = .bool (hitTo G cn t) ∧ wi = w2) (fun _ i _ => G.length - (intOf i).toNat)
                    case atStart => exact ⟨0, Nat.zero_le _, rfl, rfl, rfl⟩
                    case round =>
                      obtain ⟨t, ht, rfl, rfl, hwi⟩ := hrel
                      subst hwi
                      by_cases htl : t < G.length
                      · have htli : (t : Int) < (G.length : Int) := by omega
                        obtain ⟨g1, o1, rfl, c0, _, _, _⟩ := HFG.out _ HXB.out t htl
                        have eh : Hid (hitTo G cn (t + 1) = (hitTo G cn t || ((gf G t).at_ == cn))) := rfl
                        generalize hH1 : hitTo G cn (t + 1) = h1 at *
                        have HH1 : Hid (hitTo G cn (t + 1) = h1) := hH1
                        clear hH1
                        generalize (gf G t).at_ = att at *
                        cases hh : hitTo G cn t <;> rw [hh] at eh
                        · go_wp2_with fail
                          go_roundw
                          case measure => simp [intOf]; omega
                          case rel => exact ⟨t + 1, by omega, by simp, by rw [HH1.out, eh.out]; rfl, trivial⟩
                        · go_wp2_with fail
                          go_roundw
                          case measure => simp [intOf]; omega
                          case rel => exact ⟨t + 1, by omega, by simp, by rw [HH1.out, eh.out]; rfl, trivial⟩
                      · have htli : ¬ (t : Int) < (G.length : Int) := by omega
                        have htg : t = G.length := by omega
                        subst htg
                        generalize hhit : hitTo G cn G.length = hit at *
                        have HHIT : Hid (hit = false → s1.flt = noF) := fun h => by
                          rw [HKF.out.1, hit_flt G cn (by rw [hhit]; exact h)]; rfl
                        clear hhit
                        have HWB : Hid (∀ k off, 0 < wl.length → wa = some ⟨k, off, none⟩ → k < wb.heap.size) := fun k off h0 e => by have q := hwk h0 k off e; have := HW0.out.size; omega
                        have HDA := bd_do H2.out.t.a ad rgn wa wl wc rdn hwl' HOT.out HB2.out HWB.out HKF.out.2.2.1
                        have HEQ : Hid (EqB (doB s1 ad rgn wl rdn).2.2 (doB s2 ad rgn wl rdn).2.2 ∧ (s1.flt = noF → (doB s1 ad rgn wl rdn).1 = (doB s2 ad rgn wl rdn).1 ∧ (doB s1 ad rgn wl rdn).2.1 = (doB s2 ad rgn wl rdn).2.1) ∧ ((doB s1 ad rgn wl rdn).1 = 1 → (doB s2 ad rgn wl rdn).1 = 1 ∧ (doB s1 ad rgn wl rdn).2.1.length = (doB s2 ad rgn wl rdn).2.1.length)) := H2.out.e.do H2.out.f2 HKF.out.2.1 ad rgn wl rdn
                        have HDF1 : Hid ((doB s1 ad rgn wl rdn).2.2.F = fsts G G.length ∧ (doB s1 ad rgn wl rdn).2.2.cnt = cn ∧ (doB s1 ad rgn wl rdn).2.1.length ≤ 128) := ⟨by rw [do_F]; exact H2.out.f1, by rw [do_cnt]; exact HCN.out, by have := do_len s1 ad rgn wl rdn; omega⟩
                        have HDF2 : Hid ((doB s2 ad rgn wl rdn).2.2.F = []) := by show _ = _; rw [do_F]; exact H2.out.f2
                        have HDB : Hid (∀ w3 s', Two wb w3 y1 s' y2 s2 → BR w3 wa wl → Calls Try.prog 19 #[.pointer (some ⟨y2.b, 0, none⟩), txv ad rgn wa wl.length wc rdn] w3 fun e w' => ∃ a' c', e = .returned (.tuple #[ansV (doB s2 ad rgn wl rdn).1 (.slice a' (doB s2 ad rgn wl rdn).2.1.length c'), .int .i64 0]) ∧ RdB w' (.slice a' (doB s2 ad rgn wl rdn).2.1.length c') (doB s2 ad rgn wl rdn).2.1 ∧ (∀ k, (Value.slice a' (doB s2 ad rgn wl rdn).2.1.length c').ownBlock = some k → w3.heap.size ≤ k) ∧ Bd y2 (doB s2 ad rgn wl rdn).2.2 w3 w') := fun w3 s' t3 b3 => bd_do t3.b ad rgn wa wl wc rdn hwl' HOT.out b3 HWB.out HKF.out.2.2.2
                        generalize doB s1 ad rgn wl rdn = r1 at *
                        generalize doB s2 ad rgn wl rdn = r2 at *
                        obtain ⟨v0, v1, v2, v3, v4, v5⟩ := HV2.out
                        dsimp only at v0 v1 v2 v3 v4 v5
                        go_upto_region 30 with (go_at_call 19; refine HDA.mono ?_; rintro e w3 ⟨a1, c1, rfl, q1, q2, q3⟩)
                        have x3 : Ext w3 (w3.alloc (.cells #[.int .i64 r1.1, .slice a1 r1.2.1.length c1] 57)) := (Ext.refl w3).alloc _
                        have T3 := (H2.out.t.one q3).ext x3
                        have nV : ¬ FB y1 VB := fun o => by have := HVB.out VB (.inl o); omega
                        have V3 : A6 (w3.alloc (.cells #[.int .i64 r1.1, .slice a1 r1.2.1.length c1] 57)) VB 0 ⟨dd, ad, rgn, wl, rdn, nn⟩ wa wc := by
                          obtain ⟨z0, z1, z2, z3, z4, z5⟩ := HV2.out
                          exact A6.ext ⟨q3.2.keepc nV z0, q3.2.keepc nV z1, q3.2.keepc nV z2, q3.2.keepc nV z3, q3.2.keepc nV z4, q3.2.keepc nV z5⟩ x3
                        have B3 : BR (w3.alloc (.cells #[.int .i64 r1.1, .slice a1 r1.2.1.length c1] 57)) wa wl := (HB2.out.tn q3.2 (fun k off h0 e o => by have := HWB.out k off h0 e; have := H2.out.t.a.f k o; omega)).ext x3
                        have HDB3 := HDB.out _ _ T3 B3
                        have k0 : (w3.alloc (.cells #[.int .i64 r1.1, .slice a1 r1.2.1.length c1] 57)).cell? ⟨w3.heap.size, 0, none⟩ = some (.int .i64 r1.1) := by simp [go_sem]
                        have k1 : (w3.alloc (.cells #[.int .i64 r1.1, .slice a1 r1.2.1.length c1] 57)).cell? ⟨w3.heap.size, 1, none⟩ = some (.slice a1 r1.2.1.length c1) := by simp [go_sem]
                        have hs3 : _ ≤ w3.heap.size := q3.2.size
                        have HQ1 : Hid (RdB (w3.alloc (.cells #[.int .i64 r1.1, .slice a1 r1.2.1.length c1] 57)) (.slice a1 r1.2.1.length c1) r1.2.1 ∧ (∀ k, (Value.slice a1 r1.2.1.length c1).ownBlock = some k → ¬ FB y2 k) ∧ ¬ FB y2 w3.heap.size) := ⟨q1.ext x3, fun k e o => by have h1 := q2 k e; have h2 := H2.out.t.b.b.lt k o; omega, fun o => by have h2 := H2.out.t.b.b.lt _ o; omega⟩
                        have HT3 : Hid (Two wb (w3.alloc (.cells #[.int .i64 r1.1, .slice a1 r1.2.1.length c1] 57)) y1 r1.2.2 y2 s2) := T3
                        generalize w3.alloc (.cells #[.int .i64 r1.1, .slice a1 r1.2.1.length c1] 57) = W3 at *
                        generalize w3.heap.size = V1 at *
                        clear T3 B3 x3 q1 q2 q3 HDA hs3 HDB
                        clear v0 v1 v2 v3 v4 v5
                        obtain ⟨v0, v1, v2, v3, v4, v5⟩ := V3
                        dsimp only at v0 v1 v2 v3 v4 v5
                        go_upto_region 31 with (go_at_call 19; refine HDB3.mono ?_; rintro e w5 ⟨a2, c2, rfl, q1, q2, q3⟩)
                        have x5 : Ext w5 (w5.alloc (.cells #[.int .i64 r2.1, .slice a2 r2.2.1.length c2] 57)) := (Ext.refl w5).alloc _
                        have T5 : Hid (Two wb (w5.alloc (.cells #[.int .i64 r2.1, .slice a2 r2.2.1.length c2] 57)) y1 r1.2.2 y2 r2.2.2) := (HT3.out.two q3).ext x5
                        have j0 := x5.keepc (q3.2.keepc HQ1.out.2.2 k0)
                        have j1 := x5.keepc (q3.2.keepc HQ1.out.2.2 k1)
                        have l0 : (w5.alloc (.cells #[.int .i64 r2.1, .slice a2 r2.2.1.length c2] 57)).cell? ⟨w5.heap.size, 0, none⟩ = some (.int .i64 r2.1) := by simp [go_sem]
                        have l1 : (w5.alloc (.cells #[.int .i64 r2.1, .slice a2 r2.2.1.length c2] 57)).cell? ⟨w5.heap.size, 1, none⟩ = some (.slice a2 r2.2.1.length c2) := by simp [go_sem]
                        have R1 : Hid (RdB (w5.alloc (.cells #[.int .i64 r2.1, .slice a2 r2.2.1.length c2] 57)) (.slice a1 r1.2.1.length c1) r1.2.1) := (HQ1.out.1.tn q3.2 HQ1.out.2.1).ext x5
                        have R2 : Hid (RdB (w5.alloc (.cells #[.int .i64 r2.1, .slice a2 r2.2.1.length c2] 57)) (.slice a2 r2.2.1.length c2) r2.2.1) := q1.ext x5
                        generalize w5.alloc (.cells #[.int .i64 r2.1, .slice a2 r2.2.1.length c2] 57) = W5 at *
                        generalize w5.heap.size = V2 at *
                        clear x5 q1 q2 q3 HDB3 k0 k1 v0 v1 v2 v3 v4 v5
                        cases hit with
                        | false =>
                          obtain ⟨e1, e2⟩ := HEQ.out.2.1 (HHIT.out rfl)
                          rw [← e2] at R2 l1
                          rw [← e1] at l0
                          have HEA := eq_answer r1.1 a1 c1 a2 c2 W5 R1.out R2.out (by have := HDF1.out.2.2; omega)
                          clear e1 e2
                          go_wp2_with (first | (go_at_call 11; refine (HNU.out _ _).mono ?_; rintro e wx ⟨rfl, hwx⟩; have hwy := hwx.symm; clear hwx; subst hwy) | (go_at_call 22; refine HEA.mono ?_; rintro e w7 ⟨rfl, x7⟩))
                          go_roundw
                          case measure => simp [intOf]; omega
                          case rel => exact ⟨k + 1, r1.2.2, r2.2.2, by omega, by omega, by simp, by rw [HDF1.out.2.1], T5.out.ext x7, HEQ.out.1, HDF1.out.1, HDF2.out⟩
                        | true =>
                          by_cases hst : r1.1 = 1
                          · obtain ⟨e1, e2⟩ := HEQ.out.2.2 hst
                            rw [hst] at j0
                            rw [e1] at l0
                            rw [← e2] at l1
                            clear hst e1 e2
                            go_wp2_with (go_at_call 11; refine (HNU.out _ _).mono ?_; rintro e wx ⟨rfl, hwx⟩; have hwy := hwx.symm; clear hwx; subst hwy)
                            go_roundw
                            case measure => simp [intOf]; omega
                            case rel => exact ⟨k + 1, r1.2.2, r2.2.2, by omega, by omega, by simp, by rw [HDF1.out.2.1], T5.out, HEQ.out.1, HDF1.out.1, HDF2.out⟩
                          · have hsb : (r1.1 == 1) = false := by simpa using hst
                            clear hst
                            go_wp2_with (go_at_call 11; refine (HNU.out _ _).mono ?_; rintro e wx ⟨rfl, hwx⟩; have hwy := hwx.symm; clear hwx; subst hwy)
                            go_roundw
                            case measure => simp [intOf]; omega
                            case rel => exact ⟨k + 1, r1.2.2, r2.2.2, by omega, by omega, by simp, by rw [HDF1.out.2.1], T5.out, HEQ.out.1, HDF1.out.1, HDF2.out⟩
              · have h40i : ¬ (k : Int) < 40 := by omega
                have h40b : decide ((k : Int) < 40) = false := by simpa using h40i
                go_upto_region 35 with fail
                have HWK := wakes_any wr
                go_wp2_with (go_at_call 12; refine HWK.mono ?_; rintro e w9 ⟨rfl, x9⟩)
                go_ret
                exact ⟨rfl, (HX0.out.trans (HW0.out.trans hI.out.t.a.x)).trans x9⟩
            · have hlti : ¬ (k : Int) < (L.length : Int) := by omega
              have hltb : decide ((k : Int) < (L.length : Int)) = false := by simpa using hlti
              go_upto_region 35 with fail
              have HWK := wakes_any wr
              go_wp2_with (go_at_call 12; refine HWK.mono ?_; rintro e w9 ⟨rfl, x9⟩)
              go_ret
              exact ⟨rfl, (HX0.out.trans (HW0.out.trans hI.out.t.a.x)).trans x9⟩
  · go_wp2_with (go_at_call 7; refine HH.mono ?_; rintro e wx ⟨rfl, hwx⟩; have hwy := hwx.symm; clear hwx; subst hwy)
    go_ret
    exact ⟨rfl, HX0.out⟩
end Go.Proofs.Ytadgaolakbnhcaa
