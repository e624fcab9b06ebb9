/- What the law does to the bytes that it was told. -/
import Derived.Test.YtfgljkeohoffiaaZn
namespace Go.Proofs.Ytfgljkeohoffiaa
open Go.RowKit Go.Conc
theorem row_thaw1 {w : World} {B g n cap : Nat} {v : List Value} (h : w.ownsRow B Eb 1 (.slice (some ⟨g, 0, none⟩) n cap) n v) : ∀ j, w.frozen? ⟨g, j, none⟩ = false := by
  intro j
  rcases h.2 with ⟨e1, _⟩ | ⟨g', cap', cur, e1, hB, hg, h1⟩
  · cases e1
  · cases e1
    unfold World.frozen?; rw [hg]; simp
set_option maxRecDepth 20000 in
set_option maxHeartbeats 4000000 in
theorem spoil_any (w : World) (B : Nat) (a : Option Addr) (c : Nat) (l : List Int) (h : w.ownsRow B Eb 1 (.slice a l.length c) l.length (bv l)) (hl : l.length ≤ 1000) (hB : B ≤ w.heap.size) :
    Calls Try.prog 20 #[.slice a l.length c] w fun e w' => (∃ u, e = .returned u) ∧ Tn (fun k => (Value.slice a l.length c).ownBlock = some k) w w' := by
  obtain ⟨i0, hi, hz0, hz1, hz2⟩ := info_parts Try.infoTb
  generalize hn : l.length = n at *
  have H0 : Hid (∃ l' : List Int, l'.length = n ∧ w.ownsRow B Eb 1 (.slice a n c) n (bv l') ∧ Tn (fun k => (Value.slice a n c).ownBlock = some k) w w) := ⟨l, hn, h, Tn.refl _ _⟩
  have h63 : n + 1 ≤ maxLen := by unfold maxLen; omega
  have hby : (n + 1) * 1 ≤ 140737488355328 := by omega
  clear h hn
  go_enter Try.func20, Try.ntmps20
  go_wp2_with fail
  go_loopw [2] (fun i wr => ∃ k : Nat, k ≤ n ∧ i = .int .i64 k ∧ Hid (∃ l' : List Int, l'.length = n ∧ wr.ownsRow B Eb 1 (.slice a n c) n (bv l') ∧ Tn (fun k => (Value.slice a n c).ownBlock = some k) w wr)) (fun i _ => n - (intOf i).toNat)
  case atStart => exact ⟨0, Nat.zero_le _, rfl, H0⟩
  case round =>
    obtain ⟨k, hk, rfl, hR⟩ := hrel
    clear H0
    obtain ⟨l', hl', O, T⟩ := hR.out
    clear hR
    by_cases hlt : k < n
    · have hlti : (k : Int) < (n : Int) := by omega
      have hf : ∃ g, a = some ⟨g, 0, none⟩ := by
        rcases O.2 with ⟨e1, e2⟩ | ⟨g, cap', cur, e1, _⟩
        · omega
        · cases e1; exact ⟨g, rfl⟩
      obtain ⟨g, rfl⟩ := hf
      have c0 : wr.cell? ⟨g, k, none⟩ = some (.int .u8 (l'.getD k 0)) := by
        rw [O.cellAt _ (by omega)]
        simp [bv, show k < l'.length by omega]
      have f0 := row_thaw1 O k
      generalize l'.getD k 0 = y at *
      have HO : Hid (∀ z : Int, ∃ l2 : List Int, l2.length = n ∧ (wr.setCell ⟨g, k, none⟩ (.int .u8 z)).ownsRow B Eb 1 (.slice (some ⟨g, 0, none⟩) n c) n (bv l2) ∧ Tn (fun k => (Value.slice (some ⟨g, 0, none⟩) n c).ownBlock = some k) w (wr.setCell ⟨g, k, none⟩ (.int .u8 z))) := fun z => by
        refine ⟨l'.set k z, by simp [hl'], ?_, T.set (.inl rfl) _ _⟩
        have := (O.stored k (.int .u8 z)).1
        rw [show bv (l'.set k z) = (bv l').set k (.int .u8 z) by simp [bv, List.map_set]]
        exact this
      clear O T
      go_wp2_with fail
      go_roundw
      case measure => simp [intOf]; omega
      case rel => exact ⟨k + 1, by omega, by simp, HO.out _⟩
    · have hlti : ¬ (k : Int) < (n : Int) := by omega
      have x4 : Ext wr (wr.alloc (.cells #[.int .u8 5] Eb)) := (Ext.refl wr).alloc _
      have O4 : Hid ((wr.alloc (.cells #[.int .u8 5] Eb)).ownsRow B Eb 1 (.slice a n c) n (bv l') ∧ Tn (fun k => (Value.slice a n c).ownBlock = some k) w (wr.alloc (.cells #[.int .u8 5] Eb)) ∧ B ≤ (wr.alloc (.cells #[.int .u8 5] Eb)).heap.size) := ⟨row_ext O x4, T.more x4, Nat.le_trans hB (Nat.le_trans T.size x4.size)⟩
      clear O T x4
      go_wp2_with (at_builtin; refine wpList_append_lies _ rfl (.tmp 17) (.tmp 18) 42 rfl B Eb i0 (.int .u8 0) 1 1 Try.underlying42 hi hz0 hz1 hz2 rfl (by decide) _ n (bv l') rfl (by exact O4.out.1) ⟨wr.heap.size, 0, none⟩ 1 1 [.int .u8 5] rfl rfl (by exact one_new wr _ _) (by simp [Value.oneCell']) (by decide) h63 hby (by exact O4.out.2.2) _ rfl ?_; intro g' cap' w9 hown' hg' hgb hgl; have R9 : Hid (Tn (fun k => (Value.slice a n c).ownBlock = some k) w w9) := (by exact O4.out.2.1.grown hg' (fun k e => .inl e)); clear hown' hg' hgb hgl)
      go_end0
      exact ⟨⟨_, rfl⟩, R9.out⟩
end Go.Proofs.Ytfgljkeohoffiaa
