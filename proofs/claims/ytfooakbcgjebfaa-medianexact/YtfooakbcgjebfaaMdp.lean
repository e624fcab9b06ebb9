/- gimbalref0's CopyVecs, gimballaw0's Vecs, gimbalref10's Vecs, may. -/
import Derived.Test.YtfooakbcgjebfaaMdn
namespace Go.Proofs.Ytfooakbcgjebfaa
open Go.RowKit Go.Conc Go.Shelf Go.Lib
theorem vrow_grown {a w w' : World} {row : Option Nat} {B : Nat} {s n : Nat} {e : TypeId} {v : Value} {xs : List Value} (hg : w.grownBy w' row) (h : w.ownsRow B e s v n xs) (hr : row = v.ownBlock) (x : Ext a w) (hb : a.heap.size ≤ B) : Ext a w' := by
  have t : Tn (fun k => row = some k) w w' := (Tn.refl _ w).grown hg (fun k e => .inl e)
  refine t.below x (fun i e => ?_)
  rw [hr] at e
  exact Nat.le_trans hb (h.lt i e).1
theorem take_snoc {ls : List Vc} {k : Nat} {v : Vc} (hv : ls[k]? = some v) : ls.take (k + 1) = ls.take k ++ [v] := by rw [List.take_add_one, hv]; rfl
set_option maxRecDepth 20000 in
set_option maxHeartbeats 4000000 in
theorem copyvecs_any (ls : List Vc) (a : Option Addr) (c : Nat) (w : World) (h : VL w a ls) (hm : ls.length ≤ 1000) :
    Calls Try.prog 8 #[.slice a ls.length c] w fun e w' => ∃ r rc, e = .returned (.slice r ls.length rc) ∧ w'.ownsRow w.heap.size Erw 3 (.slice r ls.length rc) ls.length (vcs ls) ∧ Ext w w' := by
  obtain ⟨i0, hi, hz2, hz1, hz0⟩ := infoq
  have HL : Hid (∀ wr, Ext w wr → VL wr a ls) := fun wr x => h.ext x
  have H0 : Hid (w.ownsRow w.heap.size Erw 3 (.slice none 0 0) 0 (vcs (ls.take 0)) ∧ Ext w w) := ⟨World.ownsRow_nil _ _ _ _, Ext.refl _⟩
  clear h
  go_enter Try.func8, Try.ntmps8
  go_wp2_with fail
  go_loopw [3, 4] (fun v i wr => ∃ (k : Nat) (r : Option Addr) (cc : Nat), k ≤ ls.length ∧ v = .slice r k cc ∧ i = .int .i64 k ∧ Hid (wr.ownsRow w.heap.size Erw 3 (.slice r k cc) k (vcs (ls.take k)) ∧ Ext w wr)) (fun _ i _ => ls.length - (intOf i).toNat)
  case atStart => exact ⟨0, none, 0, Nat.zero_le _, rfl, rfl, H0⟩
  case round =>
    obtain ⟨k, r, cc, hk, rfl, rfl, hR⟩ := hrel
    clear H0
    by_cases hlt : k < ls.length
    · have hlti : (k : Int) < (ls.length : Int) := by omega
      obtain ⟨z, hv⟩ : ∃ v, ls[k]? = some v := ⟨_, List.getElem?_eq_getElem hlt⟩
      obtain ⟨b, off, ha, j0, j1, j2⟩ := HL.out wr hR.out.2 k z hv
      subst ha
      have HT : Hid (vcs (ls.take (k + 1)) = vcs (ls.take k) ++ [(.int .i64 z.x : Value), .int .i64 z.y, .int .i64 z.z]) := by show _ = _; rw [take_snoc hv, vcs_snoc]
      have h63 : k + 1 ≤ maxLen := by unfold maxLen; omega
      have hby : (k + 1) * 24 ≤ 140737488355328 := by omega
      have x4 : Ext wr (wr.alloc (cells3 z)) := (Ext.refl wr).alloc _
      have O4 : Hid ((wr.alloc (cells3 z)).ownsRow w.heap.size Erw 3 (.slice r k cc) k (vcs (ls.take k)) ∧ Ext w (wr.alloc (cells3 z))) := ⟨vrow_ext hR.out.1 x4, hR.out.2.trans x4⟩
      clear x4 hR hv
      go_wp2_with (at_builtin; refine wpList_append_lies _ rfl (.tmp 11) (.tmp 16) 23 rfl w.heap.size Erw i0 (.agg #[.int .i64 0, .int .i64 0, .int .i64 0]) 3 24 Try.underlying23 hi hz0 hz1 hz2 rfl (by decide) _ k (vcs (ls.take k)) rfl (by exact O4.out.1) ⟨wr.heap.size, 0, none⟩ 1 1 [(.int .i64 z.x : Value), .int .i64 z.y, .int .i64 z.z] rfl rfl (by exact news3 wr z) (news3_one z) (by decide) h63 hby (by exact O4.out.2.size) _ rfl ?_; intro g' cap' w9 hown' hg' hgb hgl; have R9 : Hid (w9.ownsRow w.heap.size Erw 3 (.slice (some ⟨g', 0, none⟩) (k + 1) cap') (k + 1) (vcs (ls.take (k + 1))) ∧ Ext w w9) := (by rw [HT.out]; exact ⟨hown', vrow_grown hg' O4.out.1 rfl O4.out.2 (Nat.le_refl _)⟩); clear hown' hg' hgb hgl)
      go_roundw
      case measure => simp [intOf]; omega
      case rel => exact ⟨k + 1, _, cap', by omega, rfl, by simp, R9⟩
    · have hlti : ¬ (k : Int) < (ls.length : Int) := by omega
      have hkl : k = ls.length := by omega
      subst hkl
      have HF : Hid (wr.ownsRow w.heap.size Erw 3 (.slice r ls.length cc) ls.length (vcs ls) ∧ Ext w wr) := by rw [List.take_length] at hR; exact hR
      clear hR
      go_wp2_with fail
      go_ret
      exact ⟨r, cc, rfl, HF.out.1, HF.out.2⟩
/-- a vector written into a row that is owned -/
theorem vrow_put {w : World} {B g n c : Nat} {xs : List Value} (O : w.ownsRow B Erw 3 (.slice (some ⟨g, 0, none⟩) n c) n xs) (k : Nat) (z : Vc) : ∃ xs', (put3 w g (k * 3) z).ownsRow B Erw 3 (.slice (some ⟨g, 0, none⟩) n c) n xs' :=
  ⟨_, (((O.stored (k * 3) (.int .i64 z.x)).1.stored (k * 3 + 1) (.int .i64 z.y)).1.stored (k * 3 + 2) (.int .i64 z.z)).1⟩
theorem vrow_at {w : World} {B g n c : Nat} {xs : List Value} (O : w.ownsRow B Erw 3 (.slice (some ⟨g, 0, none⟩) n c) n xs) {j : Nat} (hj : j < n * 3) : (∃ v, w.cell? ⟨g, j, none⟩ = some v) ∧ w.frozen? ⟨g, j, none⟩ = false := by
  refine ⟨⟨xs[j]'(by rw [O.1]; exact hj), row_cells O j _ (List.getElem?_eq_getElem (by rw [O.1]; exact hj))⟩, ?_⟩
  rcases O.2 with ⟨e, _⟩ | ⟨g', cap', cur, hv, hb, hg, _⟩
  · cases e
  · cases hv
    simp [World.frozen?, hg]
set_option maxRecDepth 20000 in
set_option maxHeartbeats 4000000 in
theorem spoil_any (w : World) (B : Nat) (a : Option Addr) (c n : Nat) (xs : List Value) (h : w.ownsRow B Erw 3 (.slice a n c) n xs) (hl : n ≤ 1000) (hB : B ≤ w.heap.size) :
    Calls Try.prog 12 #[.slice a n c] w fun e w' => (∃ u, e = .returned u) ∧ Tn (fun k => (Value.slice a n c).ownBlock = some k) w w' := by
  obtain ⟨i0, hi, hz2, hz1, hz0⟩ := infoq
  have H0 : Hid (∃ ys, w.ownsRow B Erw 3 (.slice a n c) n ys ∧ Tn (fun k => (Value.slice a n c).ownBlock = some k) w w) := ⟨xs, h, Tn.refl _ _⟩
  have h63 : n + 1 ≤ maxLen := by unfold maxLen; omega
  have hby : (n + 1) * 24 ≤ 140737488355328 := by omega
  clear h
  go_enter Try.func12, Try.ntmps12
  go_wp2_with fail
  go_loopw [2] (fun i wr => ∃ k : Nat, k ≤ n ∧ i = .int .i64 k ∧ Hid (∃ ys, wr.ownsRow B Erw 3 (.slice a n c) n ys ∧ Tn (fun k => (Value.slice a n c).ownBlock = some k) w wr)) (fun i _ => n - (intOf i).toNat)
  case atStart => exact ⟨0, Nat.zero_le _, rfl, H0⟩
  case round =>
    obtain ⟨k, hk, rfl, hR⟩ := hrel
    clear H0
    obtain ⟨ys, O, T⟩ := hR.out
    clear hR
    by_cases hlt : k < n
    · have hlti : (k : Int) < (n : Int) := by omega
      have hf : ∃ g, a = some ⟨g, 0, none⟩ := by
        rcases O.2 with ⟨e1, e2⟩ | ⟨g, cap', cur, e1, _⟩
        · omega
        · cases e1; exact ⟨g, rfl⟩
      obtain ⟨g, rfl⟩ := hf
      obtain ⟨⟨v0, c0⟩, f0⟩ := vrow_at O (j := k * 3) (by omega)
      obtain ⟨⟨v1, c1⟩, f1⟩ := vrow_at O (j := k * 3 + 1) (by omega)
      obtain ⟨⟨v2, c2⟩, f2⟩ := vrow_at O (j := k * 3 + 2) (by omega)
      have HO : Hid (∀ z : Vc, ∃ ys, (put3 wr g (k * 3) z).ownsRow B Erw 3 (.slice (some ⟨g, 0, none⟩) n c) n ys ∧ Tn (fun k => (Value.slice (some ⟨g, 0, none⟩) n c).ownBlock = some k) w (put3 wr g (k * 3) z)) := fun z => by
        obtain ⟨ys', O'⟩ := vrow_put O k z
        exact ⟨ys', O', ((T.set (.inl rfl) _ _).set (.inl rfl) _ _).set (.inl rfl) _ _⟩
      clear O T
      go_wp2_with fail
      go_roundw
      case measure => simp [intOf]; omega
      case rel => exact ⟨k + 1, by omega, by simp, HO.out ⟨-77, 0, 0⟩⟩
    · have hlti : ¬ (k : Int) < (n : Int) := by omega
      have x4 : Ext wr (wr.alloc cells0) := (Ext.refl wr).alloc _
      have O4 : Hid ((wr.alloc cells0).ownsRow B Erw 3 (.slice a n c) n ys ∧ Tn (fun k => (Value.slice a n c).ownBlock = some k) w (wr.alloc cells0) ∧ B ≤ (wr.alloc cells0).heap.size) := ⟨vrow_ext O x4, T.more x4, Nat.le_trans hB (Nat.le_trans T.size x4.size)⟩
      clear O T x4
      go_wp2_with (at_builtin; refine wpList_append_lies _ rfl (.tmp 13) (.tmp 15) 23 rfl B Erw i0 (.agg #[.int .i64 0, .int .i64 0, .int .i64 0]) 3 24 Try.underlying23 hi hz0 hz1 hz2 rfl (by decide) _ n ys rfl (by exact O4.out.1) ⟨wr.heap.size, 0, none⟩ 1 1 [(.int .i64 0 : Value), .int .i64 0, .int .i64 0] rfl rfl (by exact news3 wr nought) (by exact news3_one nought) (by decide) h63 hby (by exact O4.out.2.2) _ rfl ?_; intro g' cap' w9 hown' hg' hgb hgl; have R9 : Hid (Tn (fun k => (Value.slice a n c).ownBlock = some k) w w9) := (by exact O4.out.2.1.grown hg' (fun k e => .inl e)); clear hown' hg' hgb hgl)
      go_end0
      exact ⟨⟨_, rfl⟩, R9.out⟩
set_option maxRecDepth 20000 in
set_option maxHeartbeats 4000000 in
theorem vecs_any (ls : List Vc) (a : Option Addr) (c : Nat) (w : World) (h : VL w a ls) (hm : ls.length ≤ 1000) :
    Calls Try.prog 15 #[.slice a ls.length c] w fun e w' => e = .returned (.bool (ls.all okv)) ∧ Ext w w' := by
  have HV : Hid (VL w a ls) := h
  have HX : Hid (Ext w w) := Ext.refl w
  clear h
  go_enter Try.func15, Try.ntmps15
  go_wp2_with fail
  go_loopw [3] (fun i wr => ∃ k : Nat, k ≤ ls.length ∧ i = .int .i64 k ∧ Hid ((ls.take k).all okv = true ∧ Ext w wr)) (fun i _ => ls.length - (intOf i).toNat)
  case atStart => exact ⟨0, Nat.zero_le _, rfl, rfl, HX.out⟩
  case round =>
    obtain ⟨k, hk, rfl, hR⟩ := hrel
    by_cases hlt : k < ls.length
    · obtain ⟨v, hv⟩ : ∃ v, ls[k]? = some v := ⟨_, List.getElem?_eq_getElem hlt⟩
      obtain ⟨b, off, rfl, c0, c1, c2⟩ := (HV.out.ext hR.out.2) k v hv
      have hlt2 : (k : Int) < (ls.length : Int) := by omega
      have HC : Hid (Calls Try.prog 14 #[rv v] wr fun e w' => e = .returned (.bool (okv v)) ∧ Ext w w') := (mayv_any v.x v.y v.z _).mono fun e w' ⟨h1, h2⟩ => ⟨h1, hR.out.2.trans h2⟩
      cases hov : okv v
      · have ef : Hid (ls.all okv = false) := all_not hv hov
        rw [hov] at HC
        clear hv hov
        go_wp2_with (go_at_call 14; refine HC.out.mono ?_; rintro e w2 ⟨rfl, x2⟩)
        go_ret
        exact ⟨ret_bool ef.out.symm, x2⟩
      · have ht : Hid ((ls.take (k + 1)).all okv = true) := all_take hv hR.out.1 hov
        rw [hov] at HC
        clear hv hov
        go_wp2_with (go_at_call 14; refine HC.out.mono ?_; rintro e w2 ⟨rfl, x2⟩)
        have X2 : Hid (Ext w w2) := x2
        clear x2 HC c0 c1 c2
        go_roundw
        case measure => simp [intOf]; omega
        case rel => exact ⟨k + 1, by omega, by simp, ht.out, X2.out⟩
    · have hlt2 : ¬ (k : Int) < (ls.length : Int) := by omega
      have hke : k = ls.length := by omega
      subst hke
      have ef : Hid (ls.all okv = true) := by
        have := hR.out.1
        rwa [List.take_length] at this
      go_wp2_with fail
      go_ret
      exact ⟨ret_bool ef.out.symm, hR.out.2⟩
end Go.Proofs.Ytfooakbcgjebfaa
