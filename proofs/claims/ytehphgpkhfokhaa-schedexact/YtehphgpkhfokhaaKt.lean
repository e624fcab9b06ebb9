/- The reference's wheel: Set; May. -/
import Derived.Test.YtehphgpkhfokhaaKs
import Derived.Deep.CutBlock
namespace Go.Proofs.Ytehphgpkhfokhaa
open Go.RowKit
theorem addp (b o n : Nat) : (⟨b, o, none⟩ : Addr).add n = ⟨b, o + n, none⟩ := by
  unfold Addr.add
  split
  · subst_vars; rfl
  · rfl
/-- what Set has gathered behind its loop -/
def Got (w wr : World) (S : List Tm) (at_ : Int) (r : Option Addr) (j c : Nat) : Prop :=
  wr.ownsRow w.heap.size Ea 2 (.slice r j c) j (flat2 (S.take j)) ∧ Ext w wr ∧ ∀ i, i < j → (gt S i).2.1 ≤ at_
set_option maxRecDepth 20000 in
set_option maxHeartbeats 8000000 in
theorem rset_any {p : Nat} {v : Value} {S : List Tm} (id at_ tn : Int) (w : World) (h : RW w p v S) (hS : S.length ≤ 1000) :
    Calls Try.prog 40 #[.pointer (some ⟨p, 2, none⟩), .int .i64 id, .int .i64 at_] w fun e w' => (∃ u, e = .returned u) ∧ ∃ v', RW w' p v' (ins (id, at_, tn) (filt id S)) ∧ Turn (fun k j => k = p ∧ j = 2) w w' ∧ ∀ k, v'.ownBlock = some k → w.heap.size ≤ k := by
  obtain ⟨i0, hi, hz0, hz1, hz2⟩ := info_parts Try.infoTa
  have HC := rcancel_any id w h hS
  have HL0 : Hid ((filt id S).length ≤ 1000) := by
    show _ ≤ _
    unfold filt
    have := List.length_filter_le (fun t => decide (t.1 ≠ id)) S
    omega
  obtain ⟨S1, hS1⟩ : ∃ S1, filt id S = S1 := ⟨_, rfl⟩
  rw [hS1] at HC HL0 ⊢
  clear h hS1
  go_enter Try.func40, Try.ntmps40
  go_upto_region 1 with (go_at_call 47; refine HC.mono ?_; rintro e w1 ⟨rfl, v1, h1, t1, k1⟩)
  obtain ⟨a, cap, rfl, hcap, ha⟩ := h1.shape
  have HT1 : Hid (Turn (fun k j => k = p ∧ j = 2) w w1) := t1
  have HA : Hid (∀ j, j < S1.length → ∃ g, a = some ⟨g, 0, none⟩ ∧ w1.cell? ⟨g, j * 2, none⟩ = some (.int .i64 (gt S1 j).1) ∧ w1.cell? ⟨g, j * 2 + 1, none⟩ = some (.int .i64 (gt S1 j).2.1)) := ha
  have hp := h1.1.1
  have fp := h1.1.2
  have HH : Hid (RW w1 p (.slice a S1.length cap) S1) := h1
  clear ha h1 t1 k1 HC hS
  go_upto_block 0 with fail
  go_cut [6, 7] from 11 to 41 (fun s6 s7 wx => ∃ (j : Nat) (r : Option Addr) (c : Nat), s7 = .int .i64 j ∧ s6 = .slice r j c ∧ j ≤ S1.length ∧ Hid (Got w1 wx S1 at_ r j c ∧ due at_ S1 = S1.take j ∧ left at_ S1 = S1.drop j))
  case first =>
    go_wp2_with fail
    go_loopw [6, 7] (fun s6 s7 wr => ∃ (j : Nat) (r : Option Addr) (c : Nat), j ≤ S1.length ∧ s7 = .int .i64 j ∧ s6 = .slice r j c ∧ Hid (Got w1 wr S1 at_ r j c)) (fun _ s7 _ => S1.length - (intOf s7).toNat)
    case atStart => exact ⟨0, none, 0, Nat.zero_le _, rfl, rfl, World.ownsRow_nil _ _ _ _, Ext.refl _, fun i hi => by omega⟩
    case round =>
      obtain ⟨j, r, c, hj, rfl, rfl, hR⟩ := hrel
      have hpr := hR.out.2.1.keepc hp
      by_cases hlt : j < S1.length
      · have hjx : (j : Int) < (S1.length : Int) := by omega
        have hj2 : (j : Int) ≤ 1000 := by have := HL0.out; omega
        have hj3 : j ≤ 1000 := by omega
        obtain ⟨g, rfl, c0, c1⟩ := HA.out j hlt
        have c0 := hR.out.2.1.keepc c0
        have c1 := hR.out.2.1.keepc c1
        by_cases hle : (gt S1 j).2.1 ≤ at_
        · obtain ⟨q1, q2, q3⟩ := hR.out
          have HT : Hid (flat2 (S1.take (j + 1)) = flat2 (S1.take j) ++ [.int .i64 (gt S1 j).1, .int .i64 (gt S1 j).2.1]) := by show _ = _; rw [take_one hlt, flat2_app]; rfl
          have HQ : Hid (∀ i, i < j + 1 → (gt S1 i).2.1 ≤ at_) := fun i hi => by
            by_cases e : i = j
            · subst e; exact hle
            · exact q3 i (by omega)
          have hb : w1.heap.size ≤ wr.heap.size + 1 := by have := q2.size; omega
          have h63 : j + 1 ≤ maxLen := by unfold maxLen; omega
          have hby : (j + 1) * 16 ≤ 140737488355328 := by omega
          have HX : Hid (Ext w1 wr) := q2
          clear hR q2 q3
          generalize (gt S1 j).1 = t1 at *
          generalize (gt S1 j).2.1 = t2 at *
          go_wp2_with (at_builtin; refine wpList_append_lies _ rfl (.tmp 30) (.tmp 38) 53 rfl w1.heap.size Ea i0 (.agg #[.int .i64 0, .int .i64 0]) 2 16 Try.underlying53 hi hz0 hz1 hz2 rfl (by decide) _ j (flat2 (S1.take j)) rfl (by exact q1.alloc _) ⟨wr.heap.size, 0, none⟩ 1 1 [.int .i64 t1, .int .i64 t2] rfl rfl (by exact two_new wr _ _ _) (by simp [Value.oneCell']) (by decide) h63 hby (by simpa using hb) (wr.heap.size + 1) (by simp) ?_; intro g' cap' w2 hown' hg' hgb hgl; have R1 : Hid (Got w1 w2 S1 at_ (some ⟨g', 0, none⟩) (j + 1) cap') := (by refine ⟨?_, row_grown hg' (q1.alloc _) (HX.out.alloc _) (Nat.le_refl _), HQ.out⟩; rw [HT.out]; exact hown'); clear hown' hg' hgb hgl)
          go_roundw
          case measure => simp [intOf]; omega
          case rel => exact ⟨j + 1, _, cap', by omega, by simp, rfl, R1⟩
        · have HD : Hid (Got w1 wr S1 at_ r j c ∧ due at_ S1 = S1.take j ∧ left at_ S1 = S1.drop j) := ⟨hR.out, due_j hj hR.out.2.2 (fun _ => by omega)⟩
          clear hR
          generalize (gt S1 j).1 = t1 at *
          generalize (gt S1 j).2.1 = t2 at *
          go_wp2_with fail
          go_meet
          exact ⟨j, r, c, rfl, rfl, hj, HD⟩
      · have hjx : ¬ (j : Int) < (S1.length : Int) := by omega
        have HD : Hid (Got w1 wr S1 at_ r j c ∧ due at_ S1 = S1.take j ∧ left at_ S1 = S1.drop j) := ⟨hR.out, due_j hj hR.out.2.2 (fun k => by omega)⟩
        go_wp2_with fail
        go_meet
        exact ⟨j, r, c, rfl, rfl, hj, HD⟩
  case rest =>
    obtain ⟨j, r, c, rfl, rfl, hj, hG⟩ := hcut
    obtain ⟨⟨q1, q2, _⟩, d1, d2⟩ := hG.out
    have HIns : Hid (ins (id, at_, tn) S1 = S1.take j ++ [(id, at_, tn)] ++ S1.drop j) := by
      show _ = _
      rw [← d1, ← d2]
      unfold ins due left
      simp
    have hb : w1.heap.size ≤ wc.heap.size + 1 := by have := q2.size; omega
    have hL := HL0.out
    have h63 : j + 1 ≤ maxLen := by unfold maxLen; omega
    have hby : (j + 1) * 16 ≤ 140737488355328 := by omega
    have HX : Hid (Ext w1 wc) := q2
    have hsh : (a = none ∧ S1.length = 0 ∧ cap = 0) ∨ ∃ g, a = some ⟨g, 0, none⟩ := by
      rcases HH.out.2.1.2 with ⟨e1, e2⟩ | ⟨g, c, cur, e1, _⟩
      · simp only [Value.slice.injEq] at e1; exact .inl ⟨e1.1, e1.2.1, e1.2.2⟩
      · simp only [Value.slice.injEq] at e1; exact .inr ⟨g, e1.1⟩
    have hjx : (j : Int) ≤ (S1.length : Int) := by omega
    have hjc : (j : Int) ≤ (cap : Int) := by omega
    -- what stands behind it all
    have HEnd : Hid (∀ (v' : Value) (n : Nat) (w3 : World), Ext w1 w3 → w3.ownsRow w1.heap.size Ea 2 v' n (flat2 (ins (id, at_, tn) S1)) → n = (ins (id, at_, tn) S1).length → ∃ v'', v'' = v' ∧ RW (w3.setCell ⟨p, 2, none⟩ v') p v'' (ins (id, at_, tn) S1) ∧ Turn (fun k j => k = p ∧ j = 2) w (w3.setCell ⟨p, 2, none⟩ v') ∧ ∀ k, v''.ownBlock = some k → w.heap.size ≤ k) := fun v' n w3 x o e => by
      obtain ⟨b1, b2, b3⟩ := HH.out.put (S' := ins (id, at_, tn) S1) x (by rw [← e]; exact o)
      exact ⟨v', rfl, b1, HT1.out.trans b2 (fun _ _ _ o => o), fun k hk => Nat.le_trans HT1.out.size (b3 k hk)⟩
    have HLen : Hid ((ins (id, at_, tn) S1).length = S1.length + 1) := by
      show _ = _
      have := (ins_perm (id, at_, tn) S1).length_eq
      simpa using this
    clear d1 d2 q2 hG hL
    by_cases hlt : j < S1.length
    · obtain ⟨g, rfl, _, _⟩ := HA.out j hlt
      have HNews : Hid (∀ w', Ext w1 w' → ∀ q u, (flat2 (S1.drop j))[q]? = some u → w'.cell? ((⟨g, j * 2, none⟩ : Addr).add q) = some u) := fun w' x q u hu => by
        rw [flat2_drop, List.getElem?_drop] at hu
        have hc := (row_ext HH.out.2.1 x).cells (g := g) rfl (j * 2 + q) u hu
        have e : (⟨g, j * 2, none⟩ : Addr).add q = (⟨g, 0, none⟩ : Addr).add (j * 2 + q) := by rw [addp, addp, Nat.zero_add]
        rw [e]; exact hc
      have hone := flat2_one (S1.drop j)
      have hfl : (flat2 (S1.drop j)).length = (S1.length - j) * 2 := by rw [flat2_len]; simp
      have hpos : 0 < S1.length - j := by omega
      have h63b : j + 1 + (S1.length - j) ≤ maxLen := by unfold maxLen; have := HL0.out; omega
      have hbyb : (j + 1 + (S1.length - j)) * 16 ≤ 140737488355328 := by have := HL0.out; omega
      have hne : ¬ cap - j = 0 := by omega
      have hjc2 : j < cap := by omega
      go_upto_region 7 with (at_builtin; refine wpList_append_lies _ rfl (.tmp 42) (.tmp 46) 53 rfl w1.heap.size Ea i0 (.agg #[.int .i64 0, .int .i64 0]) 2 16 Try.underlying53 hi hz0 hz1 hz2 rfl (by decide) _ j (flat2 (S1.take j)) rfl (by exact q1.alloc _) ⟨wc.heap.size, 0, none⟩ 1 1 [.int .i64 id, .int .i64 at_] rfl rfl (by exact two_new wc _ _ _) (by simp [Value.oneCell']) (by decide) h63 hby (by simpa using hb) (wc.heap.size + 1) (by simp) ?_; intro g' cap' w2 hown' hg' hgb hgl; have R2 : Hid (w2.ownsRow w1.heap.size Ea 2 (.slice (some ⟨g', 0, none⟩) (j + 1) cap') (j + 1) (flat2 (S1.take j ++ [(id, at_, tn)])) ∧ Ext w1 w2) := (by refine ⟨?_, row_grown hg' (q1.alloc _) (HX.out.alloc _) (Nat.le_refl _)⟩; rw [flat2_app]; exact hown'); clear hown' hg' hgb hgl)
      have hp2 := R2.out.2.keepc hp
      have hs2 := R2.out.2.size
      have o2 := R2.out.1
      go_wp2_with (at_builtin; refine wpList_append_lies _ rfl (.tmp 49) (.tmp 55) 53 rfl w1.heap.size Ea i0 (.agg #[.int .i64 0, .int .i64 0]) 2 16 Try.underlying53 hi hz0 hz1 hz2 rfl (by decide) _ (j + 1) (flat2 (S1.take j ++ [(id, at_, tn)])) rfl (by exact o2) ⟨g, j * 2, none⟩ (S1.length - j) (cap - j) (flat2 (S1.drop j)) rfl hfl (by exact HNews.out _ R2.out.2) hone hpos h63b hbyb (by exact hs2) w2.heap.size rfl ?_; intro g'' cap'' w3 hown' hg' hgb hgl; have x3 : Ext w1 w3 := row_grown hg' o2 R2.out.2 (Nat.le_refl _); have hp3 := x3.keepc hp; have fp3 := x3.keepf hp fp; have HF := HEnd.out (.slice (some ⟨g'', 0, none⟩) (j + 1 + (S1.length - j)) cap'') _ w3 x3 (by rw [HIns.out, flat2_app]; exact hown') (by rw [HLen.out]; omega); have HF : Hid _ := HF; clear hown' hg' hgb hgl)
      go_end0
      obtain ⟨v', rfl, b1, b2, b3⟩ := HF.out
      exact ⟨⟨_, rfl⟩, _, b1, b2, b3⟩
    · have hjs : j = S1.length := by omega
      have HI2 : Hid (ins (id, at_, tn) S1 = S1.take j ++ [(id, at_, tn)]) := by show _ = _; rw [HIns.out, List.drop_of_length_le (by omega), List.append_nil]
      have hz : S1.length - j = 0 := by omega
      have HJ : Hid (j = S1.length) := hjs
      clear hjs
      rcases hsh with ⟨rfl, hS0, rfl⟩ | ⟨g, rfl⟩
      · have hj0 : j = 0 := by have := HJ.out; omega
        rw [hS0] at hp
        have HL1 : Hid ((ins (id, at_, tn) S1).length = 1) := by show _ = _; rw [HLen.out, hS0]
        subst hj0
        clear hS0 HJ hz hjx hjc hlt hj hcap HLen
        go_upto_region 7 with (at_builtin; refine wpList_append_lies _ rfl (.tmp 42) (.tmp 46) 53 rfl w1.heap.size Ea i0 (.agg #[.int .i64 0, .int .i64 0]) 2 16 Try.underlying53 hi hz0 hz1 hz2 rfl (by decide) _ 0 (flat2 (S1.take 0)) rfl (by exact q1.alloc _) ⟨wc.heap.size, 0, none⟩ 1 1 [.int .i64 id, .int .i64 at_] rfl rfl (by exact two_new wc _ _ _) (by simp [Value.oneCell']) (by decide) h63 hby (by simpa using hb) (wc.heap.size + 1) (by simp) ?_; intro g' cap' w2 hown' hg' hgb hgl; have R2 : Hid (w2.ownsRow w1.heap.size Ea 2 (.slice (some ⟨g', 0, none⟩) 1 cap') 1 (flat2 (S1.take 0 ++ [(id, at_, tn)])) ∧ Ext w1 w2) := (by refine ⟨?_, row_grown hg' (q1.alloc _) (HX.out.alloc _) (Nat.le_refl _)⟩; rw [flat2_app]; exact hown'); clear hown' hg' hgb hgl)
        have hp2 := R2.out.2.keepc hp
        have fp2 := R2.out.2.keepf hp fp
        have o2 := R2.out.1
        have HF : Hid _ := HEnd.out _ _ w2 R2.out.2 (by rw [HI2.out]; exact o2) (by rw [HL1.out])
        go_wp2_with (at_builtin; refine wpList_append_zero rfl (.tmp 49) (.tmp 55) 53 rfl w1.heap.size Ea i0 2 Try.underlying53 hi _ 1 _ rfl (by exact o2) _ _ rfl ?_)
        go_end0
        obtain ⟨v', rfl, b1, b2, b3⟩ := HF.out
        exact ⟨⟨_, rfl⟩, _, b1, b2, b3⟩
      · go_upto_region 7 with (at_builtin; refine wpList_append_lies _ rfl (.tmp 42) (.tmp 46) 53 rfl w1.heap.size Ea i0 (.agg #[.int .i64 0, .int .i64 0]) 2 16 Try.underlying53 hi hz0 hz1 hz2 rfl (by decide) _ j (flat2 (S1.take j)) rfl (by exact q1.alloc _) ⟨wc.heap.size, 0, none⟩ 1 1 [.int .i64 id, .int .i64 at_] rfl rfl (by exact two_new wc _ _ _) (by simp [Value.oneCell']) (by decide) h63 hby (by simpa using hb) (wc.heap.size + 1) (by simp) ?_; intro g' cap' w2 hown' hg' hgb hgl; have R2 : Hid (w2.ownsRow w1.heap.size Ea 2 (.slice (some ⟨g', 0, none⟩) (j + 1) cap') (j + 1) (flat2 (S1.take j ++ [(id, at_, tn)])) ∧ Ext w1 w2) := (by refine ⟨?_, row_grown hg' (q1.alloc _) (HX.out.alloc _) (Nat.le_refl _)⟩; rw [flat2_app]; exact hown'); clear hown' hg' hgb hgl)
        have hp2 := R2.out.2.keepc hp
        have fp2 := R2.out.2.keepf hp fp
        have o2 := R2.out.1
        have HF : Hid _ := HEnd.out _ _ w2 R2.out.2 (by rw [HI2.out]; exact o2) (by have := HJ.out; rw [HLen.out]; omega)
        by_cases hjc2 : j < cap
        · have hne : ¬ cap - j = 0 := by omega
          go_wp2_with (at_builtin; refine wpList_append_zero rfl (.tmp 49) (.tmp 55) 53 rfl w1.heap.size Ea i0 2 Try.underlying53 hi _ (j + 1) _ rfl (by exact o2) _ _ rfl ?_)
          go_end0
          obtain ⟨v', rfl, b1, b2, b3⟩ := HF.out
          exact ⟨⟨_, rfl⟩, _, b1, b2, b3⟩
        · have hce : cap = j := by omega
          go_wp2_with (at_builtin; refine wpList_append_zero rfl (.tmp 49) (.tmp 55) 53 rfl w1.heap.size Ea i0 2 Try.underlying53 hi _ (j + 1) _ rfl (by exact o2) _ _ rfl ?_)
          go_end0
          obtain ⟨v', rfl, b1, b2, b3⟩ := HF.out
          exact ⟨⟨_, rfl⟩, _, b1, b2, b3⟩
end Go.Proofs.Ytehphgpkhfokhaa
