/- Copies: samples. -/
import Derived.Test.YtfgljkeohoffiaaZl
namespace Go.Proofs.Ytfgljkeohoffiaa
open Go.RowKit Go.Conc
theorem take_snoc (l : List Raw) {k : Nat} (h : k < l.length) : l.take (k + 1) = l.take k ++ [smp l k] := by
  rw [List.take_add_one, smp, List.getD_eq_getElem?_getD, List.getElem?_eq_getElem h]; rfl
set_option maxRecDepth 20000 in
set_option maxHeartbeats 4000000 in
theorem copyraws_any (w : World) (a : Option Addr) (l : List Raw) (c : Nat) (h : LR w a l) (hm : l.length ≤ 100000) :
    Calls Try.prog 42 #[.slice a l.length c] w fun e w' => ∃ r rc, e = .returned (.slice r l.length rc) ∧ w'.ownsRow w.heap.size Erw 4 (.slice r l.length rc) l.length (fl4 l) ∧ Ext w w' := by
  obtain ⟨i0, hi, hz0, hz1, hz2⟩ := info_parts Try.infoTq
  have HL : Hid (∀ wr, Ext w wr → LR wr a l) := fun wr x => h.ext x
  have H0 : Hid (w.ownsRow w.heap.size Erw 4 (.slice none 0 0) 0 (fl4 (l.take 0)) ∧ Ext w w) := ⟨World.ownsRow_nil _ _ _ _, Ext.refl _⟩
  clear h
  go_enter Try.func42, Try.ntmps42
  go_wp2_with fail
  go_loopw [3, 4] (fun v i wr => ∃ (k : Nat) (r : Option Addr) (cc : Nat), k ≤ l.length ∧ v = .slice r k cc ∧ i = .int .i64 k ∧ Hid (wr.ownsRow w.heap.size Erw 4 (.slice r k cc) k (fl4 (l.take k)) ∧ Ext w wr)) (fun _ i _ => l.length - (intOf i).toNat)
  case atStart => exact ⟨0, none, 0, Nat.zero_le _, rfl, rfl, H0⟩
  case round =>
    obtain ⟨k, r, cc, hk, rfl, rfl, hR⟩ := hrel
    clear H0
    by_cases hlt : k < l.length
    · have hlti : (k : Int) < (l.length : Int) := by omega
      obtain ⟨b, off, ha, j0, j1, j2, j3⟩ := HL.out wr hR.out.2 k hlt
      subst ha
      have HT : Hid (fl4 (l.take (k + 1)) = fl4 (l.take k) ++ fl4 [smp l k]) := by show _ = _; rw [take_snoc l hlt, fl4_app]
      generalize smp l k = z at *
      have h63 : k + 1 ≤ maxLen := by unfold maxLen; omega
      have hby : (k + 1) * 32 ≤ 140737488355328 := by omega
      have x4 : Ext wr (wr.alloc (cells4 z)) := (Ext.refl wr).alloc _
      have O4 : Hid ((wr.alloc (cells4 z)).ownsRow w.heap.size Erw 4 (.slice r k cc) k (fl4 (l.take k)) ∧ Ext w (wr.alloc (cells4 z))) := ⟨row_ext hR.out.1 x4, hR.out.2.trans x4⟩
      clear x4 hR
      go_wp2_with (at_builtin; refine wpList_append_lies _ rfl (.tmp 11) (.tmp 16) 33 rfl w.heap.size Erw i0 (.agg #[.int .i64 0, .int .i64 0, .int .i64 0, .int .i64 0]) 4 32 Try.underlying33 hi hz0 hz1 hz2 rfl (by decide) _ k (fl4 (l.take k)) rfl (by exact O4.out.1) ⟨wr.heap.size, 0, none⟩ 1 1 (fl4 [z]) rfl rfl (by exact new4 wr z) (fl4_one _) (by decide) h63 hby (by exact O4.out.2.size) _ rfl ?_; intro g' cap' w9 hown' hg' hgb hgl; have R9 : Hid (w9.ownsRow w.heap.size Erw 4 (.slice (some ⟨g', 0, none⟩) (k + 1) cap') (k + 1) (fl4 (l.take (k + 1))) ∧ Ext w w9) := (by rw [HT.out]; exact ⟨hown', row_grown hg' O4.out.1 O4.out.2 (Nat.le_refl _)⟩); clear hown' hg' hgb hgl)
      go_roundw
      case measure => simp [intOf]; omega
      case rel => exact ⟨k + 1, _, cap', by omega, rfl, by simp, R9⟩
    · have hlti : ¬ (k : Int) < (l.length : Int) := by omega
      have hkl : k = l.length := by omega
      subst hkl
      have HF : Hid (wr.ownsRow w.heap.size Erw 4 (.slice r l.length cc) l.length (fl4 l) ∧ Ext w wr) := by rw [List.take_length] at hR; exact hR
      clear hR
      go_wp2_with fail
      go_ret
      exact ⟨r, cc, rfl, HF.out.1, HF.out.2⟩
theorem row_base {w : World} {B B' : Nat} {e : TypeId} {s n : Nat} {v : Value} {xs : List Value} (h : w.ownsRow B e s v n xs) (hb : B' ≤ B) : w.ownsRow B' e s v n xs := by
  refine ⟨h.1, ?_⟩
  rcases h.2 with e2 | ⟨g, cap, cur, hv', hb', hr⟩
  · exact .inl e2
  · exact .inr ⟨g, cap, cur, hv', Nat.le_trans hb hb', hr⟩
set_option maxRecDepth 20000 in
set_option maxHeartbeats 4000000 in
theorem copymodel_any (w : World) (m : Md) (a : Option Addr) (c : Nat) (h : LR w a m.list) (hm : m.list.length ≤ 100000) :
    Calls Try.prog 23 #[mv m a c] w fun e w' => ∃ r rc, e = .returned (mv m r rc) ∧ w'.ownsRow w.heap.size Erw 4 (.slice r m.list.length rc) m.list.length (fl4 m.list) ∧ Ext w w' := by
  have x3 : Ext w (((w.alloc (mc m a c)).alloc (mc ⟨0, 0, []⟩ none 0)).alloc (mc m a c)) := (((Ext.refl w).alloc _).alloc _).alloc _
  have HC := copyraws_any _ a m.list c (h.ext x3) hm
  have HS : Hid (∀ w4, Ext (((w.alloc (mc m a c)).alloc (mc ⟨0, 0, []⟩ none 0)).alloc (mc m a c)) w4 → (w4.cell? ⟨w.heap.size + 1 + 1, 0, none⟩ = some (.int .i64 m.addr) ∧ w4.cell? ⟨w.heap.size + 1 + 1, 1, none⟩ = some (.int .i64 m.id) ∧ w4.cell? ⟨w.heap.size + 1 + 1, 2, none⟩ = some (.slice a m.list.length c) ∧ w4.frozen? ⟨w.heap.size + 1 + 1, 2, none⟩ = false) ∧ (w4.cell? ⟨w.heap.size + 1, 0, none⟩ = some (.int .i64 0) ∧ w4.cell? ⟨w.heap.size + 1, 1, none⟩ = some (.int .i64 0) ∧ w4.cell? ⟨w.heap.size + 1, 2, none⟩ = some (.slice none 0 0) ∧ w4.frozen? ⟨w.heap.size + 1, 0, none⟩ = false ∧ w4.frozen? ⟨w.heap.size + 1, 1, none⟩ = false ∧ w4.frozen? ⟨w.heap.size + 1, 2, none⟩ = false)) := fun w4 x => by
    have g0 : (((w.alloc (mc m a c)).alloc (mc ⟨0, 0, []⟩ none 0)).alloc (mc m a c)).cell? ⟨w.heap.size + 1, 0, none⟩ = some (.int .i64 0) := by simp [go_sem]
    have g1 : (((w.alloc (mc m a c)).alloc (mc ⟨0, 0, []⟩ none 0)).alloc (mc m a c)).cell? ⟨w.heap.size + 1, 1, none⟩ = some (.int .i64 0) := by simp [go_sem]
    have g2 : (((w.alloc (mc m a c)).alloc (mc ⟨0, 0, []⟩ none 0)).alloc (mc m a c)).cell? ⟨w.heap.size + 1, 2, none⟩ = some (.slice none 0 0) := by simp [go_sem]
    have g3 : (((w.alloc (mc m a c)).alloc (mc ⟨0, 0, []⟩ none 0)).alloc (mc m a c)).cell? ⟨w.heap.size + 1 + 1, 2, none⟩ = some (.slice a m.list.length c) := by simp [go_sem]
    exact ⟨⟨x.keepc (by simp [go_sem]), x.keepc (by simp [go_sem]), x.keepc g3, x.keepf g3 (by simp [go_sem])⟩, x.keepc g0, x.keepc g1, x.keepc g2, x.keepf g0 (by simp [go_sem]), x.keepf g1 (by simp [go_sem]), x.keepf g2 (by simp [go_sem])⟩
  have HX3 : Hid (Ext w (((w.alloc (mc m a c)).alloc (mc ⟨0, 0, []⟩ none 0)).alloc (mc m a c)) ∧ (((w.alloc (mc m a c)).alloc (mc ⟨0, 0, []⟩ none 0)).alloc (mc m a c)).heap.size = w.heap.size + 1 + 1 + 1) := ⟨x3, by simp⟩
  clear h x3
  go_enter Try.func23, Try.ntmps23
  go_upto_region 2 with fail
  simp only [mc] at HC
  go_wp2_with (go_at_call 42; refine HC.mono ?_; rintro e w4 ⟨r, rc, rfl, o4, x4⟩; obtain ⟨⟨s0, s1, s2, s3⟩, r0, r1, r2, r3, r4, r5⟩ := HS.out w4 x4; have HO : Hid (w4.ownsRow (w.heap.size + 1 + 1 + 1) Erw 4 (.slice r m.list.length rc) m.list.length (fl4 m.list) ∧ Ext w w4) := (by rw [← HX3.out.2]; exact ⟨o4, HX3.out.1.trans x4⟩); clear o4 x4)
  have T : Tn (fun k => k < w.heap.size + 1 + 1 + 1 ∧ w.heap.size ≤ k) w4 ((((w4.setCell ⟨w.heap.size + 1 + 1, 2, none⟩ (.slice r m.list.length rc)).setCell ⟨w.heap.size + 1, 0, none⟩ (.int .i64 m.addr)).setCell ⟨w.heap.size + 1, 1, none⟩ (.int .i64 m.id)).setCell ⟨w.heap.size + 1, 2, none⟩ (.slice r m.list.length rc)) := ((((Tn.refl _ w4).set (.inl (by omega)) _ _).set (.inl (by omega)) _ _).set (.inl (by omega)) _ _).set (.inl (by omega)) _ _
  exact bodyPost_ret (v := mv m r rc) (by simp [results, Try.results23, go_sem, r0, r1, r2]) rfl ⟨r, rc, rfl, row_base (row_tn HO.out.1 T (fun k hk _ e => by omega)) (by omega), T.below HO.out.2 (fun k e => e.2)⟩
end Go.Proofs.Ytfgljkeohoffiaa
