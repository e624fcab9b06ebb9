/- Copies of bytes and answers; Check of eight bytes. -/
import Derived.Test.YtdfhhfpfnkjbnaaFa
namespace Go.Proofs.Ytdfhhfpfnkjbnaa
open Go.RowKit Go.Conc
theorem HV.grown {w w' : World} {b : Nat} {vs : List Value} {row : Option Nat} (h : HV w b vs) (hg : w.grownBy w' row) (hr : row ≠ some b) : HV w' b vs := by
  have hb := hg.block b h.1 (fun e => hr e.symm)
  refine ⟨Nat.lt_of_lt_of_le h.1 hg.size, fun j v hv => ?_⟩
  obtain ⟨h1, h2⟩ := h.2 j v hv
  exact ⟨(World.cell?_of_block (a := ⟨b, j, none⟩) hb).trans h1, (World.frozen?_of_block (a := ⟨b, j, none⟩) hb).trans h2⟩
/-- eight bytes of a longer row, checked -/
theorem rcheck8 (w : World) (g o c : Nat) (b : B8) (h : ∀ j, j < 8 → w.cell? ⟨g, o + j, none⟩ = some (.int .u8 (b.at j))) : Calls Try.prog 42 #[.slice (some ⟨g, o, none⟩) 8 c] w fun e w' => e = .returned (.int .u8 (ckTo b 7)) ∧ w' = w := by
  have HC : Hid (∀ j, j < 8 → w.cell? ⟨g, o + j, none⟩ = some (.int .u8 (b.at j))) := h
  clear h
  go_enter Try.func42, Try.ntmps42
  go_wp2_with fail
  go_loopw [3, 4] (fun v i wr => ∃ k : Nat, k ≤ 7 ∧ i = .int .i64 k ∧ v = .int .u8 (ckTo b k) ∧ wr = w) (fun _ i _ => 7 - (intOf i).toNat)
  case atStart => exact ⟨0, by omega, rfl, rfl, rfl⟩
  case round =>
    obtain ⟨k, hk, rfl, rfl, hw⟩ := hrel
    subst hw
    by_cases hlt : k < 7
    · have c0 := HC.out k (by omega)
      have hkl : (k : Int) < 8 := by omega
      have es : Hid (ckTo b (k + 1) = bits BinOp.xor IntKind.u8 (ckTo b k) (b.at k)) := rfl
      generalize b.at k = y at *
      generalize hc1 : ckTo b (k + 1) = c1 at *
      have HC1 : Hid (ckTo b (k + 1) = c1) := hc1
      clear hc1
      generalize ckTo b k = c2 at *
      go_wp2_with fail
      go_roundw
      case measure => simp [intOf]; omega
      case rel => exact ⟨k + 1, by omega, by simp, by rw [HC1.out, es.out], trivial⟩
    · have hk7 : k = 7 := by omega
      subst hk7
      go_wp2_with fail
      go_ret
      exact ⟨rfl, rfl⟩
theorem take_snocb (l : List Int) {k : Nat} (h : k < l.length) : l.take (k + 1) = l.take k ++ [l.getD k 0] := by
  rw [List.take_add_one, List.getD_eq_getElem?_getD, List.getElem?_eq_getElem h]; rfl
set_option maxRecDepth 20000 in
set_option maxHeartbeats 4000000 in
theorem copybytes_any (w : World) (a : Option Addr) (l : List Int) (c : Nat) (h : RdY w 0 a l) (hm : l.length ≤ 1000) :
    Calls Try.prog 44 #[.slice a l.length c] w fun e w' => ∃ r rc, e = .returned (.slice r l.length rc) ∧ w'.ownsRow w.heap.size Eb 1 (.slice r l.length rc) l.length (bv l) ∧ Ext w w' := by
  obtain ⟨i0, hi, hz0, hz1, hz2⟩ := info_parts Try.infoTb
  have HL : Hid (∀ wr, Ext w wr → RdY wr 0 a l) := fun wr x => h.ext x
  have H0 : Hid (w.ownsRow w.heap.size Eb 1 (.slice none 0 0) 0 (bv (l.take 0)) ∧ Ext w w) := ⟨World.ownsRow_nil _ _ _ _, Ext.refl _⟩
  clear h
  go_enter Try.func44, Try.ntmps44
  go_wp2_with fail
  go_loopw [3, 4] (fun v i wr => ∃ (k : Nat) (r : Option Addr) (cc : Nat), k ≤ l.length ∧ v = .slice r k cc ∧ i = .int .i64 k ∧ Hid (wr.ownsRow w.heap.size Eb 1 (.slice r k cc) k (bv (l.take k)) ∧ Ext w wr)) (fun _ i _ => l.length - (intOf i).toNat)
  case atStart => exact ⟨0, none, 0, Nat.zero_le _, rfl, rfl, H0⟩
  case round =>
    obtain ⟨k, r, cc, hk, rfl, rfl, hR⟩ := hrel
    clear H0
    by_cases hlt : k < l.length
    · have hlti : (k : Int) < (l.length : Int) := by omega
      obtain ⟨b, off, ha, _, j0⟩ := HL.out wr hR.out.2 k hlt
      subst ha
      have HT : Hid (bv (l.take (k + 1)) = bv (l.take k) ++ [.int .u8 (l.getD k 0)]) := by show _ = _; rw [take_snocb l hlt, bv_app]; rfl
      generalize l.getD k 0 = z at *
      have h63 : k + 1 ≤ maxLen := by unfold maxLen; omega
      have hby : (k + 1) * 1 ≤ 140737488355328 := by omega
      have x4 : Ext wr (wr.alloc (.cells #[.int .u8 z] Eb)) := (Ext.refl wr).alloc _
      have O4 : Hid ((wr.alloc (.cells #[.int .u8 z] Eb)).ownsRow w.heap.size Eb 1 (.slice r k cc) k (bv (l.take k)) ∧ Ext w (wr.alloc (.cells #[.int .u8 z] Eb))) := ⟨row_ext hR.out.1 x4, hR.out.2.trans x4⟩
      clear x4 hR
      go_wp2_with (at_builtin; refine wpList_append_lies _ rfl (.tmp 11) (.tmp 16) 25 rfl w.heap.size Eb i0 (.int .u8 0) 1 1 Try.underlying25 hi hz0 hz1 hz2 rfl (by decide) _ k (bv (l.take k)) rfl (by exact O4.out.1) ⟨wr.heap.size, 0, none⟩ 1 1 [.int .u8 z] rfl rfl (by exact one_new wr _ _) (by simp [Value.oneCell']) (by decide) h63 hby (by exact O4.out.2.size) _ rfl ?_; intro g' cap' w9 hown' hg' hgb hgl; have R9 : Hid (w9.ownsRow w.heap.size Eb 1 (.slice (some ⟨g', 0, none⟩) (k + 1) cap') (k + 1) (bv (l.take (k + 1))) ∧ Ext w w9) := (by rw [HT.out]; exact ⟨hown', row_grown hg' O4.out.1 O4.out.2 (Nat.le_refl _)⟩); clear hown' hg' hgb hgl)
      go_roundw
      case measure => simp [intOf]; omega
      case rel => exact ⟨k + 1, _, cap', by omega, rfl, by simp, R9⟩
    · have hlti : ¬ (k : Int) < (l.length : Int) := by omega
      have hkl : k = l.length := by omega
      subst hkl
      have HF : Hid (wr.ownsRow w.heap.size Eb 1 (.slice r l.length cc) l.length (bv l) ∧ Ext w wr) := by rw [List.take_length] at hR; exact hR
      clear hR
      go_wp2_with fail
      go_ret
      exact ⟨r, cc, rfl, HF.out.1, HF.out.2⟩
theorem rdy_row {w : World} {B c : Nat} {a : Option Addr} {l : List Int} (h : w.ownsRow B Eb 1 (.slice a l.length c) l.length (bv l)) : RdY w B a l := fun j hj => by
  rcases h.2 with ⟨_, e2⟩ | ⟨g, cap, cur, e1, hb, _⟩
  · omega
  · have h' := h
    simp only [Value.slice.injEq, true_and] at e1
    obtain ⟨rfl, rfl⟩ := e1
    refine ⟨g, 0, rfl, hb, ?_⟩
    rw [Nat.zero_add, h'.cellAt j (by omega)]
    simp [bv, hj]
theorem row_cap {w : World} {B c n : Nat} {a : Option Addr} {l : List Int} (h : w.ownsRow B Eb 1 (.slice a n c) n (bv l)) : n ≤ c := by
  rcases h.2 with ⟨e1, e2⟩ | ⟨g, cap, cur, e1, _, _, hc, _⟩
  · omega
  · simp only [Value.slice.injEq, true_and] at e1
    omega
/-- what is told of a copy lies from B on -/
theorem RdY.base {w : World} {B B' : Nat} {a : Option Addr} {l : List Int} (h : RdY w B a l) (hb : B' ≤ B) : RdY w B' a l := fun j hj => by
  obtain ⟨b, off, e, h1, h2⟩ := h j hj
  exact ⟨b, off, e, Nat.le_trans hb h1, h2⟩
set_option maxRecDepth 20000 in
set_option maxHeartbeats 4000000 in
theorem copyanswer_any (w : World) (ast : Int) (a : Option Addr) (l : List Int) (c : Nat) (h : RdY w 0 a l) (hm : l.length ≤ 1000) :
    Calls Try.prog 18 #[.agg #[.int .i64 ast, .slice a l.length c]] w fun e w' => ∃ r rc, e = .returned (.agg #[.int .i64 ast, .slice r l.length rc]) ∧ l.length ≤ rc ∧ RdY w' w.heap.size r l ∧ Ext w w' := by
  have x3 : Ext w (((w.alloc (.cells #[.int .i64 ast, .slice a l.length c] 27)).alloc (.cells #[.int .i64 0, .slice none 0 0] 27)).alloc (.cells #[.int .i64 ast, .slice a l.length c] 27)) := (((Ext.refl w).alloc _).alloc _).alloc _
  have HC := copybytes_any _ a l c (h.ext x3) hm
  have F1 : Hid (HV (((w.alloc (.cells #[.int .i64 ast, .slice a l.length c] 27)).alloc (.cells #[.int .i64 0, .slice none 0 0] 27)).alloc (.cells #[.int .i64 ast, .slice a l.length c] 27)) (w.heap.size + 1) [.int .i64 0, .slice none 0 0]) := (hv_at (by simp)).alloc _
  have F2 : Hid (HV (((w.alloc (.cells #[.int .i64 ast, .slice a l.length c] 27)).alloc (.cells #[.int .i64 0, .slice none 0 0] 27)).alloc (.cells #[.int .i64 ast, .slice a l.length c] 27)) (w.heap.size + 1 + 1) [.int .i64 ast, .slice a l.length c]) := hv_at (by simp)
  have F0 : Hid (HV (((w.alloc (.cells #[.int .i64 ast, .slice a l.length c] 27)).alloc (.cells #[.int .i64 0, .slice none 0 0] 27)).alloc (.cells #[.int .i64 ast, .slice a l.length c] 27)) w.heap.size [.int .i64 ast, .slice a l.length c]) := ((hv_at rfl).alloc _).alloc _
  have HX3 : Hid (Ext w (((w.alloc (.cells #[.int .i64 ast, .slice a l.length c] 27)).alloc (.cells #[.int .i64 0, .slice none 0 0] 27)).alloc (.cells #[.int .i64 ast, .slice a l.length c] 27)) ∧ (((w.alloc (.cells #[.int .i64 ast, .slice a l.length c] 27)).alloc (.cells #[.int .i64 0, .slice none 0 0] 27)).alloc (.cells #[.int .i64 ast, .slice a l.length c] 27)).heap.size = w.heap.size + 1 + 1 + 1) := ⟨x3, by simp⟩
  clear h x3
  go_enter Try.func18, Try.ntmps18
  go_upto_region 2 with fail
  generalize (((w.alloc (.cells #[.int .i64 ast, .slice a l.length c] 27)).alloc (.cells #[.int .i64 0, .slice none 0 0] 27)).alloc (.cells #[.int .i64 ast, .slice a l.length c] 27)) = w3 at *
  have c1 : w3.cell? ⟨w.heap.size, 1, none⟩ = some (.slice a l.length c) := F0.out.c 1 rfl
  go_upto_region 3 with (go_at_call 44; refine HC.mono ?_; rintro e w4 ⟨r, rc, rfl, o4, x4⟩; have d1 : w4.cell? ⟨w.heap.size + 1 + 1, 1, none⟩ = some (.slice a l.length c) := (F2.out.ext x4).c 1 rfl; have d2 : w4.frozen? ⟨w.heap.size + 1 + 1, 1, none⟩ = false := (F2.out.ext x4).f 1 rfl)
  have G2 : Hid (HV (w4.setCell ⟨w.heap.size + 1 + 1, 1, none⟩ (.slice r l.length rc)) (w.heap.size + 1 + 1) [.int .i64 ast, .slice r l.length rc]) := (F2.out.ext x4).set 1 _
  have G1 : Hid (HV (w4.setCell ⟨w.heap.size + 1 + 1, 1, none⟩ (.slice r l.length rc)) (w.heap.size + 1) [.int .i64 0, .slice none 0 0]) := (F1.out.ext x4).far (by omega)
  have GX : Hid (Ext w (w4.setCell ⟨w.heap.size + 1 + 1, 1, none⟩ (.slice r l.length rc))) := (HX3.out.1.trans x4).set (p := ⟨w.heap.size + 1 + 1, 1, none⟩) (by dsimp only; omega) _
  have GR : Hid ((w4.setCell ⟨w.heap.size + 1 + 1, 1, none⟩ (.slice r l.length rc)).ownsRow (w.heap.size + 1 + 1 + 1) Eb 1 (.slice r l.length rc) l.length (bv l)) := by
    rw [HX3.out.2] at o4
    exact row_tn o4 ((Tn.refl (fun k => k = w.heap.size + 1 + 1) w4).set (.inl rfl) _ _) (fun k hk _ e => by omega)
  clear d1 d2 o4 x4 c1 F0 F1 F2 HX3 HC
  generalize (w4.setCell ⟨w.heap.size + 1 + 1, 1, none⟩ (.slice r l.length rc)) = w5 at *
  have d0 : w5.cell? ⟨w.heap.size + 1 + 1, 0, none⟩ = some (.int .i64 ast) := G2.out.c 0 rfl
  have d1 : w5.cell? ⟨w.heap.size + 1 + 1, 1, none⟩ = some (.slice r l.length rc) := G2.out.c 1 rfl
  have e0 : w5.cell? ⟨w.heap.size + 1, 0, none⟩ = some (.int .i64 0) := G1.out.c 0 rfl
  have e1 : w5.cell? ⟨w.heap.size + 1, 1, none⟩ = some (.slice none 0 0) := G1.out.c 1 rfl
  have f0 : w5.frozen? ⟨w.heap.size + 1, 0, none⟩ = false := G1.out.f 0 rfl
  have f1 : w5.frozen? ⟨w.heap.size + 1, 1, none⟩ = false := G1.out.f 1 rfl
  have T : Tn (fun k => k = w.heap.size + 1) w5 ((w5.setCell ⟨w.heap.size + 1, 0, none⟩ (.int .i64 ast)).setCell ⟨w.heap.size + 1, 1, none⟩ (.slice r l.length rc)) := ((Tn.refl (fun k => k = w.heap.size + 1) w5).set (.inl rfl) _ _).set (.inl rfl) _ _
  have R : Hid (((w5.setCell ⟨w.heap.size + 1, 0, none⟩ (.int .i64 ast)).setCell ⟨w.heap.size + 1, 1, none⟩ (.slice r l.length rc)).ownsRow (w.heap.size + 1 + 1 + 1) Eb 1 (.slice r l.length rc) l.length (bv l)) := row_tn GR.out T (fun k hk _ e => by omega)
  have X : Hid (Ext w ((w5.setCell ⟨w.heap.size + 1, 0, none⟩ (.int .i64 ast)).setCell ⟨w.heap.size + 1, 1, none⟩ (.slice r l.length rc))) := (GX.out.set (p := ⟨w.heap.size + 1, 0, none⟩) (by dsimp only; omega) _).set (p := ⟨w.heap.size + 1, 1, none⟩) (by dsimp only; omega) _
  clear T GR GX
  go_wp2_with fail
  exact bodyPost_ret (v := .agg #[.int .i64 ast, .slice r l.length rc]) (by simp [results, Try.results18, go_sem, e0, e1]) rfl ⟨r, rc, rfl, row_cap R.out, (rdy_row R.out).base (by omega), X.out⟩
set_option maxRecDepth 20000 in
set_option maxHeartbeats 2000000 in
theorem eqanswer_any {l : List Int} {B B' : Nat} (ast : Int) (a : Option Addr) (c : Nat) (a' : Option Addr) (c' : Nat) (w : World) (hu : RdY w B a l) (hv : RdY w B' a' l) (hS : l.length ≤ 100000) :
    Calls Try.prog 22 #[.agg #[.int .i64 ast, .slice a l.length c], .agg #[.int .i64 ast, .slice a' l.length c']] w fun e w' => e = .returned (.bool true) ∧ Ext w w' := by
  have x2 : Ext w ((w.alloc (.cells #[.int .i64 ast, .slice a l.length c] 27)).alloc (.cells #[.int .i64 ast, .slice a' l.length c'] 27)) := ((Ext.refl w).alloc _).alloc _
  have HE := eqby_any a c a' c' _ (hu.ext x2) (hv.ext x2) hS
  have HX : Hid (Ext w ((w.alloc (.cells #[.int .i64 ast, .slice a l.length c] 27)).alloc (.cells #[.int .i64 ast, .slice a' l.length c'] 27))) := x2
  clear hu hv hS x2
  go_enter Try.func22, Try.ntmps22
  go_wp2_with (go_at_call 34; refine HE.mono ?_; rintro e w3 ⟨rfl, x3⟩)
  go_ret
  exact ⟨rfl, HX.out.trans x3⟩
end Go.Proofs.Ytdfhhfpfnkjbnaa
