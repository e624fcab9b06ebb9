/- taken of the reference's device. -/
import Derived.Test.YtfgljkeohoffiaaZe
import Derived.Test.YtfgljkeohoffiaaZb
namespace Go.Proofs.Ytfgljkeohoffiaa
open Go.RowKit Go.Conc
section
variable {w w' : World} {g o : Nat} {a : Option Addr} {lc : Nat} {qa : Option Addr} {qc : Nat} {s : Dv}
/-- what a reference's device reads -/
def RL (g : Nat) (a qa : Option Addr) (n k : Nat) : Prop := k = g ∨ QB qa k ∨ (0 < n ∧ ∃ off, a = some ⟨k, off, none⟩)
theorem RD.tn {own : Nat → Prop} (h : RD w g o a lc qa qc s) (t : Tn own w w') (ho : ∀ k, RL g a qa s.list.length k → ¬ own k) : RD w' g o a lc qa qc s := by
  have hg := ho g (.inl rfl)
  have hb := t.2 g h.glt hg
  refine h.fr (o' := o + 9) (own := own) ⟨t.mono (fun _ _ e => .inr e), fun j _ => World.cell?_of_block (w := w) (w' := w') (a := ⟨g, j, none⟩) hb, fun j => World.frozen?_of_block (w := w) (w' := w') (a := ⟨g, j, none⟩) hb⟩ (.inl (Nat.le_refl _)) (fun k hk => ho k (.inr hk))
theorem RD.lt (h : RD w g o a lc qa qc s) : ∀ k, RL g a qa s.list.length k → k < w.heap.size := by
  intro k o
  rcases o with rfl | o | ⟨h0, off, e⟩
  · exact h.glt
  · exact h.qu.lt k o
  · obtain ⟨b, off', e', c⟩ := h.li 0 h0
    rw [e] at e'
    cases e'
    exact World.block_lt_of_cell? w ⟨k, off + 0 * 4, none⟩ c.1
/-- j samples are told; the queue has moved on in its own block -/
def Btk (w : World) (g o : Nat) (a : Option Addr) (lc : Nat) (qa : Option Addr) (s : Dv) (wr : World) (j : Nat) (v : Value) : Prop :=
  wr.ownsRow w.heap.size Eb 1 v (8 * j) (bv (brst s.q j)) ∧ ∃ qa' qc', RD wr g o a lc qa' qc' { s with q := s.q.drop j } ∧ Fr g o (QB qa) w wr ∧ ∀ k, QB qa' k → QB qa k
/-- one more sample -/
theorem btk_row {w4 w9 : World} {v : Value} {news : List Value} {g' cap j : Nat} {q : List Raw} {qa' : Option Addr} {qc' : Nat} (D : RD w4 g o a lc qa' qc' { s with q := q }) (t : Fr g o (QB qa) w w4) (O : w4.ownsRow w.heap.size Eb 1 v (8 * j) (bv (brst s.q j)))
    (hown : w9.ownsRow w.heap.size Eb 1 (.slice (some ⟨g', 0, none⟩) (8 * j + 8) cap) (8 * j + 8) (bv (brst s.q j) ++ news)) (hg : w4.grownBy w9 v.ownBlock) (hT : bv (brst s.q (j + 1)) = bv (brst s.q j) ++ news)
    (hL : ∀ k, RL g a qa' s.list.length k → k < w.heap.size) : w9.ownsRow w.heap.size Eb 1 (.slice (some ⟨g', 0, none⟩) (8 * (j + 1)) cap) (8 * (j + 1)) (bv (brst s.q (j + 1))) ∧ RD w9 g o a lc qa' qc' { s with q := q } ∧ Fr g o (QB qa) w w9 := by
  have tt : Tn (fun k => v.ownBlock = some k) w4 w9 := (Tn.refl _ w4).grown hg (fun k e => .inl e)
  have hn : ∀ k, RL g a qa' s.list.length k → ¬ v.ownBlock = some k := fun k hk e => by
    have := hL k hk
    have := (O.lt k e).1
    omega
  have hb := tt.2 g D.glt (hn g (.inl rfl))
  refine ⟨by rw [hT]; exact hown, D.tn tt hn, t.trans (own' := fun k => v.ownBlock = some k) ⟨tt.mono (fun _ _ e => .inr e), fun j _ => World.cell?_of_block (w := w4) (w' := w9) (a := ⟨g, j, none⟩) hb, fun j => World.frozen?_of_block (w := w4) (w' := w9) (a := ⟨g, j, none⟩) hb⟩ (fun k hk e => ?_)⟩
  have := (O.lt k e).1
  omega
theorem QO.tail {qb qo : Nat} {z : Raw} {l : List Raw} (h : QO w (some ⟨qb, qo, none⟩) qc (z :: l)) : QO w (if qc = 1 then some ⟨qb, qo, none⟩ else some ⟨qb, qo + 4, none⟩) (qc - 1) l := by
  have hle := h.le
  simp only [List.length_cons] at hle
  rcases h.fo with e | ⟨b, off, e, hb, hc⟩
  · cases e.1
  · cases e
    split
    · rename_i h1
      have hl : l = [] := List.eq_nil_of_length_eq_zero (by omega)
      subst hl
      exact ⟨fun i hi => absurd hi (Nat.not_lt_zero _), Nat.zero_le _, .inr ⟨qb, qo, rfl, hb, fun j hj => hc j (by omega)⟩⟩
    · refine ⟨fun i hi => ⟨qb, qo + 4, rfl, ?_⟩, by omega, .inr ⟨qb, qo + 4, rfl, hb, fun j hj => ?_⟩⟩
      · obtain ⟨b', o', e', c'⟩ := h.li (i + 1) (by simp only [List.length_cons]; omega)
        cases e'
        have e2 : qo + 4 + i * 4 = qo + (i + 1) * 4 := by omega
        rw [e2]
        exact c'
      · have := hc (4 + j) (by omega)
        rw [show qo + 4 + j = qo + (4 + j) by omega]
        exact this
theorem qb_tail {qb qo k : Nat} (h : QB (if qc = 1 then some ⟨qb, qo, none⟩ else some ⟨qb, qo + 4, none⟩) k) : k = qb := by
  obtain ⟨off, e⟩ := h
  split at e <;> (cases e; rfl)
/-- the queue moves on -/
theorem btk_next {w4 : World} {qb qo qc' j m : Nat} {z : Raw} {v : Value} (R : w4.ownsRow w.heap.size Eb 1 v (8 * (j + 1)) (bv (brst s.q (j + 1))) ∧ RD w4 g o a lc (some ⟨qb, qo, none⟩) qc' { s with q := s.q.drop j } ∧ Fr g o (QB qa) w w4) (e1 : s.q.drop j = z :: s.q.drop (j + 1)) (hm : (s.q.drop (j + 1)).length = m) (hs : ∀ k, QB (some ⟨qb, qo, none⟩) k → QB qa k) (hg : g < w.heap.size) :
    Btk w g o a lc qa s (w4.setCell ⟨g, o + 8, none⟩ (.slice (if qc' = 1 then some ⟨qb, qo, none⟩ else some ⟨qb, qo + 4, none⟩) m (qc' - 1))) (j + 1) v := by
  obtain ⟨O, D, T⟩ := R
  subst hm
  have hq : QO w4 (some ⟨qb, qo, none⟩) qc' (z :: s.q.drop (j + 1)) := by rw [← e1]; exact D.qu
  have h16 : (s.q.drop (j + 1)).length ≤ 16 := by have := D.n3; simp only [e1, List.length_cons] at this; omega
  have hQ : QB (some ⟨qb, qo, none⟩) qb := ⟨qo, rfl⟩
  refine ⟨row_tn O ((Tn.refl (fun k => k = g) w4).set (.inl rfl) _ _) (fun k hk _ e => by omega), _, _, D.setQ hq.tail h16 (fun k hk => ?_), T.set 8 (by omega) _, fun k hk => ?_⟩
  · rw [qb_tail hk]
    exact ⟨D.qg qb hQ, .inl hQ⟩
  · rw [qb_tail hk]
    exact hs qb hQ
set_option maxRecDepth 20000 in
set_option maxHeartbeats 4000000 in
theorem rtaken_any (h : RD w g o a lc qa qc s) (n : Nat) (h1 : 1 ≤ n) (h2 : n ≤ 128) :
    Calls Try.prog 40 #[.pointer (some ⟨g, o, none⟩), .int .i64 n] w fun e w' => ∃ g' cap, e = .returned (.slice (some ⟨g', 0, none⟩) n cap) ∧ w'.ownsRow w.heap.size Eb 1 (.slice (some ⟨g', 0, none⟩) n cap) n (bv ((brst s.q ((n + 7) / 8)).take n)) ∧ Rdk g o a lc qa { s with q := s.q.drop ((n + 7) / 8) } w w' := by
  obtain ⟨i0, hi, hz0, hz1, hz2⟩ := info_parts Try.infoTb
  have HB : Hid (∀ w r, Calls Try.prog 53 #[rv r] w fun e w' => ∃ g c, e = .returned (.slice (some ⟨g, 0, none⟩) 8 c) ∧ w'.ownsRow w.heap.size Eb 1 (.slice (some ⟨g, 0, none⟩) 8 c) 8 (bv (pk r).l) ∧ Ext w w') := bytes_any
  have H0 : Hid (Btk w g o a lc qa s w 0 (.slice none 0 0)) := ⟨World.ownsRow_nil _ _ _ _, qa, qc, h, Fr.refl _ _ _ _, fun _ hk => hk⟩
  have HLT : Hid (∀ k, RL g a qa s.list.length k → k < w.heap.size) := h.lt
  clear h
  go_enter Try.func40, Try.ntmps40
  go_wp2_with fail
  go_loopw [5] (fun v wr => ∃ (j : Nat) (r : Option Addr) (c : Nat), j ≤ (n + 7) / 8 ∧ v = .slice r ((8 * j : Nat)) c ∧ Hid (Btk w g o a lc qa s wr j (.slice r ((8 * j : Nat)) c))) (fun v _ => n - sliceLen v)
  case atStart => exact ⟨0, none, 0, by omega, rfl, H0⟩
  case round =>
    obtain ⟨j, r, c, hj, rfl, hR⟩ := hrel
    obtain ⟨q1, qa', qc', D, T, hs⟩ := hR.out
    clear H0 hR
    by_cases hlt : 8 * j < n
    · have hlti : ((8 * j : Nat) : Int) < (n : Int) := by omega
      have hj1 : j + 1 ≤ (n + 7) / 8 := by omega
      have h63 : 8 * j + 8 ≤ maxLen := by unfold maxLen; omega
      have hby : (8 * j + 8) * 1 ≤ 140737488355328 := by omega
      have HL2 : Hid (∀ k, RL g a qa' s.list.length k → k < w.heap.size) := fun k hk => HLT.out k (by
        rcases hk with e | e | e
        · exact .inl e
        · exact .inr (.inl (hs k e))
        · exact .inr (.inr e))
      by_cases hq : j < s.q.length
      · have e1 : s.q.drop j = smp s.q j :: s.q.drop (j + 1) := by
          rw [List.drop_eq_getElem_cons hq]; congr 1; simp [smp, hq]
        have HT : Hid (bv (brst s.q (j + 1)) = bv (brst s.q j) ++ bv (pk (smp s.q j)).l) := by show _ = _; rw [brst, bv_app, bq, if_pos hq]
        have c8 : wr.cell? ⟨g, o + 8, none⟩ = some (.slice qa' ((s.q.drop (j + 1)).length + 1) qc') := by have := D.c8; simp only [e1, List.length_cons] at this; exact this
        obtain ⟨qb, qo, hqa, hcs⟩ := D.qu.li 0 (by show 0 < (s.q.drop j).length; rw [e1]; simp)
        have hcs' : C4 wr qb (qo + 0 * 4) (smp s.q j) := by
          have : smp (s.q.drop j) 0 = smp s.q j := by rw [e1]; rfl
          rw [← this]; exact hcs
        subst hqa
        have hle : (s.q.drop (j + 1)).length + 1 ≤ qc' := by have := D.qu.le; simp only [e1, List.length_cons] at this; exact this
        rw [Nat.zero_mul, Nat.add_zero] at hcs'
        obtain ⟨i1, i2, i3, i4⟩ := hcs'
        generalize smp s.q j = z at *
        have hlti2 : (0 : Int) < ((s.q.drop (j + 1)).length + 1 : Nat) := by omega
        have hne0 : (((s.q.drop (j + 1)).length + 1 : Nat) : Int) ≠ 0 := by omega
        have HD : Hid (RD wr g o a lc (some ⟨qb, qo, none⟩) qc' { s with q := s.q.drop j } ∧ Fr g o (QB qa) w wr ∧ wr.ownsRow w.heap.size Eb 1 (.slice r ((8 * j : Nat)) c) (8 * j) (bv (brst s.q j))) := ⟨D, T, q1⟩
        have HE1 : Hid (s.q.drop j = z :: s.q.drop (j + 1)) := e1
        clear D T q1 hcs e1
        generalize hm : (s.q.drop (j + 1)).length = m at *
        have HM : Hid ((s.q.drop (j + 1)).length = m) := hm
        clear hm
        go_upto_region 6 with (first | (go_at_call 53; refine (HB.out _ _).mono ?_; rintro e w13 ⟨g13, c13, rfl, o13, x13⟩; have O4 : Hid (w13.ownsRow w.heap.size Eb 1 (.slice r ((8 * j : Nat)) c) (8 * j) (bv (brst s.q j))) := row_ext HD.out.2.2 x13; have V4 : Hid (∀ j u, (bv (pk z).l)[j]? = some u → w13.cell? ((⟨g13, 0, none⟩ : Addr).add j) = some u) := row_news o13; have X4 : Hid (Ext wr w13) := x13; clear o13 x13) | (at_builtin; refine wpList_append_lies _ rfl (.tmp 19) (.tmp 26) 42 rfl w.heap.size Eb i0 (.int .u8 0) 1 1 Try.underlying42 hi hz0 hz1 hz2 rfl (by decide) _ (8 * j) (bv (brst s.q j)) rfl (by exact O4.out) ⟨g13, 0, none⟩ 8 c13 (bv (pk z).l) rfl (by simp [bv, B8.l]) (by exact V4.out) (bv_one _) (by decide) h63 hby (by exact Nat.le_trans HD.out.2.1.t.size X4.out.size) _ rfl ?_; intro g' cap' w14 hown' hg' hgb hgl; have R1 : Hid (w14.ownsRow w.heap.size Eb 1 (.slice (some ⟨g', 0, none⟩) (8 * (j + 1)) cap') (8 * (j + 1)) (bv (brst s.q (j + 1))) ∧ RD w14 g o a lc (some ⟨qb, qo, none⟩) qc' { s with q := s.q.drop j } ∧ Fr g o (QB qa) w w14) := (by exact btk_row (HD.out.1.ext X4.out) (HD.out.2.1.trans (own' := QB qa) (Fr.of_ext X4.out HD.out.1.glt) (fun _ _ e => e)) O4.out hown' hg' HT.out HL2.out); clear hown' hg' hgb hgl))
        clear c8 i1 i2 i3 i4
        have c8 : w14.cell? ⟨g, o + 8, none⟩ = some (.slice (some ⟨qb, qo, none⟩) (m + 1) qc') := by have := R1.out.2.1.c8; simp only [HE1.out, List.length_cons, HM.out] at this; exact this
        have f8 := R1.out.2.1.f (o + 8)
        have R2 : Hid (Btk w g o a lc qa s (w14.setCell ⟨g, o + 8, none⟩ (.slice (if qc' = 1 then some ⟨qb, qo, none⟩ else some ⟨qb, qo + 4, none⟩) m (qc' - 1))) (j + 1) (.slice (some ⟨g', 0, none⟩) (8 * (j + 1)) cap')) := btk_next R1.out HE1.out HM.out hs (HLT.out g (.inl rfl))
        go_wp2_with fail
        go_roundw
        case measure => simp [sliceLen]; omega
        case rel => exact ⟨j + 1, _, cap', hj1, rfl, R2⟩
      · have e0 : s.q.drop j = [] := List.drop_of_length_le (by omega)
        have e1 : s.q.drop (j + 1) = [] := List.drop_of_length_le (by omega)
        have HT : Hid (bv (brst s.q (j + 1)) = bv (brst s.q j) ++ bv blk.l) := by show _ = _; rw [brst, bv_app, bq, if_neg hq]
        have c8 : wr.cell? ⟨g, o + 8, none⟩ = some (.slice qa' 0 qc') := by have := D.c8; simp only [e0, List.length_nil] at this; exact this
        have x4 : Ext wr (wr.alloc (.cells (bv blk.l).toArray Eb)) := (Ext.refl wr).alloc _
        have O4 : Hid ((wr.alloc (.cells (bv blk.l).toArray Eb)).ownsRow w.heap.size Eb 1 (.slice r ((8 * j : Nat)) c) (8 * j) (bv (brst s.q j))) := row_ext q1 x4
        have V4 : Hid (∀ j u, (bv blk.l)[j]? = some u → (wr.alloc (.cells (bv blk.l).toArray Eb)).cell? ((⟨wr.heap.size, 0, none⟩ : Addr).add j) = some u) := row_news (l := blk.l) (World.ownsRow_lit (base := 0) wr (bv blk.l).toArray 8 (by omega) (by decide) rfl)
        have D4 : Hid (RD (wr.alloc (.cells (bv blk.l).toArray Eb)) g o a lc qa' qc' { s with q := s.q.drop (j + 1) } ∧ Fr g o (QB qa) w (wr.alloc (.cells (bv blk.l).toArray Eb)) ∧ w.heap.size ≤ (wr.alloc (.cells (bv blk.l).toArray Eb)).heap.size) := ⟨by rw [e1, ← e0]; exact D.ext x4, T.trans (own' := QB qa) (Fr.of_ext x4 D.glt) (fun _ _ e => e), Nat.le_trans T.t.size x4.size⟩
        have HSub : Hid (∀ k, QB qa' k → QB qa k) := hs
        have HW4 : Hid (wr.alloc (.cells (bv blk.l).toArray Eb) = wr.alloc (.cells #[.int .u8 255, .int .u8 255, .int .u8 255, .int .u8 255, .int .u8 255, .int .u8 255, .int .u8 255, .int .u8 255] Eb)) := rfl
        rw [HW4.out] at O4 V4 D4
        clear D T q1 x4 e0 e1 hs
        go_wp2_with (at_builtin; refine wpList_append_lies _ rfl (.tmp 16) (.tmp 17) 42 rfl w.heap.size Eb i0 (.int .u8 0) 1 1 Try.underlying42 hi hz0 hz1 hz2 rfl (by decide) _ (8 * j) (bv (brst s.q j)) rfl (by exact O4.out) ⟨wr.heap.size, 0, none⟩ 8 8 (bv blk.l) rfl (by simp [bv, B8.l]) (by exact V4.out) (bv_one _) (by decide) h63 hby (by exact D4.out.2.2) _ rfl ?_; intro g' cap' w14 hown' hg' hgb hgl; have R1 : Hid (Btk w g o a lc qa s w14 (j + 1) (.slice (some ⟨g', 0, none⟩) (8 * (j + 1)) cap')) := (by have hh := btk_row D4.out.1 D4.out.2.1 O4.out hown' hg' HT.out HL2.out; exact ⟨hh.1, qa', qc', hh.2.1, hh.2.2, HSub.out⟩); clear hown' hg' hgb hgl)
        go_roundw
        case measure => simp [sliceLen]; omega
        case rel => exact ⟨j + 1, _, cap', hj1, rfl, R1⟩
    · have hlti : ¬ ((8 * j : Nat) : Int) < (n : Int) := by omega
      have hjn : j = (n + 7) / 8 := by omega
      have hcap : ∃ g', r = some ⟨g', 0, none⟩ ∧ 8 * j ≤ c := by
        rcases q1.2 with ⟨_, e0⟩ | ⟨g', cap, cur, hv, _, _, hc, _⟩
        · omega
        · cases hv; exact ⟨g', rfl, hc⟩
      obtain ⟨g', rfl, hc⟩ := hcap
      have q3 := row_cut q1 (m := n) (by omega)
      have HF : Hid (wr.ownsRow w.heap.size Eb 1 (.slice (some ⟨g', 0, none⟩) n c) n (bv ((brst s.q ((n + 7) / 8)).take n)) ∧ Rdk g o a lc qa { s with q := s.q.drop ((n + 7) / 8) } w wr) := ⟨by rw [bv_take, ← hjn]; exact q3, by rw [← hjn]; exact ⟨qa', qc', D, T, fun k hk => hs k hk⟩⟩
      have hnc : (n : Int) ≤ (c : Int) := by omega
      clear q1 q3 D T
      go_wp2_with fail
      go_ret
      exact ⟨g', c, rfl, HF.out.1, HF.out.2⟩
end
end Go.Proofs.Ytfgljkeohoffiaa
