/- tick of the reference's device. -/
import Derived.Test.YtfgljkeohoffiaaZg
namespace Go.Proofs.Ytfgljkeohoffiaa
open Go.RowKit Go.Conc
theorem step_append_queue (w : World) {ops : Array Oper} {o : Oper} {a : Act} {K : Act → World → Prop} {Q : Exit → Act → World → Prop} {E : Prop} (hgd : o.guard = none) (s x : Operand)
    (ho : o.op = .call { callee := .builtin .append, args := #[s, x], argTypes := #[33, 33] })
    (qa : Option Addr) (qc : Nat) (q : List Raw) (hs : a.eval s = .slice qa q.length qc) (hQ : QO w qa qc q) (hq : q.length ≤ 100) (ad : Addr) (c : Nat) (z : Raw) (hx : a.eval x = .slice (some ad) 1 c) (hnews : ∀ j u, (fl4 [z])[j]? = some u → w.cell? (ad.add j) = some u)
    (h : ∀ qa' qc' w', QO w' qa' qc' (q ++ [z]) → Tn (QB qa) w w' → (∀ k, QB qa' k → QB qa k ∨ w.heap.size ≤ k) → K (a.put o.dst (.slice qa' (q.length + 1) qc')) w') :
    if Region.wanted o (yielded ops a.tmps) = true then Oper.wp Try.prog o a w K Q else E := by
  have hw : Region.wanted o (yielded ops a.tmps) = true := by simp [Region.wanted, hgd]
  rw [if_pos hw]
  obtain ⟨qa', qc', w', hr, h2, h3, h4⟩ := run_append_queue w qa qc q hQ hq o.type ad c z hnews
  unfold Oper.wp execOp
  simp only [ho, resolve, invoke, builtin, Sem.run_bind, Sem.run_pure, Result.andThen_ok, List.map_toArray, List.map_cons, List.map_nil, hs, hx, hr]
  exact h qa' qc' w' h2 h3 h4
theorem new4 (w : World) (z : Raw) : ∀ j u, (fl4 [z])[j]? = some u → (w.alloc (cells4 z)).cell? ((⟨w.heap.size, 0, none⟩ : Addr).add j) = some u :=
  LR.news (l := [z]) (fun i hi => by
    have e : i = 0 := by simp at hi; omega
    subst e
    exact ⟨w.heap.size, 0, rfl, (p4_at rfl : P4 (w.alloc (cells4 z)) w.heap.size z).1⟩)
section
variable {w w' : World} {g o : Nat} {a : Option Addr} {lc : Nat} {qa : Option Addr} {qc : Nat} {s : Dv}
/-- the queue has got one more, maybe elsewhere -/
theorem RD.requeue {w9 : World} {qa' : Option Addr} {qc' : Nat} {q : List Raw} (D : RD w g o a lc qa qc s) (hT : Tn (QB qa) w w9) (hQ : QO w9 qa' qc' q) (h16 : q.length ≤ 16) (hB : ∀ k, QB qa' k → QB qa k ∨ w.heap.size ≤ k) :
    RD (w9.setCell ⟨g, o + 8, none⟩ (.slice qa' q.length qc')) g o a lc qa' qc' { s with q := q } := by
  have hg : ¬ QB qa g := fun e => D.qg g e rfl
  have hlt := D.glt
  have k0 := hT.keepc hg D.c0
  have k1 := hT.keepc hg D.c1
  have k2 := hT.keepc hg D.c2
  have k3 := hT.keepc hg D.c3
  have k4 := hT.keepc hg D.c4
  have k5 := hT.keepc hg D.c5
  have k6 := hT.keepc hg D.c6
  have k7 := hT.keepc hg D.c7
  have k8 := hT.keepc hg D.c8
  have kf : ∀ j, w9.frozen? ⟨g, j, none⟩ = false := fun j => frozen_tn hT hlt hg j (D.f j)
  have t : Tn (fun k => k = g) w9 (w9.setCell ⟨g, o + 8, none⟩ (.slice qa' q.length qc')) := (Tn.refl (fun k => k = g) w9).set (.inl rfl) _ _
  have hne : ∀ k, QB qa' k → k ≠ g := fun k hk e => by
    subst e
    rcases hB k hk with h | h
    · exact hg h
    · omega
  refine ⟨?_, ?_, ?_, ?_, ?_, ?_, ?_, ?_, ?_, ?_, (D.li.tn hT (fun k off h0 e => (D.la k off h0 e).2)).tn t (fun k off h0 e => (D.la k off h0 e).1), fun k off h0 e => ⟨(D.la k off h0 e).1, fun hk => ?_⟩, hQ.tn t hne, hne, D.n0, D.n1, D.n2, h16, D.n4⟩
  rotate_right
  · rcases hB k hk with h | h
    · exact (D.la k off h0 e).2 h
    · have := D.lt k (.inr (.inr ⟨h0, off, e⟩))
      omega
  all_goals simp [go_sem, k0, k1, k2, k3, k4, k5, k6, k7, k8, kf]
theorem Fr.requeue {w3 w9 : World} (F : Fr g o (QB qa) w w3) (hT : Tn (QB qa) w3 w9) (hg : ¬ QB qa g) (hlt : g < w3.heap.size) (v : Value) : Fr g o (QB qa) w (w9.setCell ⟨g, o + 8, none⟩ v) :=
  (F.trans (own' := QB qa) ⟨hT.mono (fun _ _ e => .inr e), fun j _ => World.cell?_of_block (w := w3) (w' := w9) (a := ⟨g, j, none⟩) (hT.2 g hlt hg), fun j => World.frozen?_of_block (w := w3) (w' := w9) (a := ⟨g, j, none⟩) (hT.2 g hlt hg)⟩ (fun _ _ e => e)).set 8 (by omega) v
theorem Rd.nexted {w3 : World} {qa' : Option Addr} {qc' : Nat} {s1 : Dv} (R : RD w3 g o a lc qa' qc' s1 ∧ Fr g o (QB qa) w w3 ∧ ∀ k, QB qa' k → QB qa k ∨ w.heap.size ≤ k) (n : Nat) (hn : 0 < s1.list.length → n < s1.list.length) : Rd g o a lc qa { s1 with next := n } w ((w3.setCell ⟨g, o + 6, none⟩ (.int .i64 n)).drew) := by
  obtain ⟨D, F, B⟩ := R
  have x : Ext (w3.setCell ⟨g, o + 6, none⟩ (.int .i64 n)) ((w3.setCell ⟨g, o + 6, none⟩ (.int .i64 n)).drew) := (Ext.refl _).drew
  exact ⟨qa', qc', (D.setNext n hn).ext x, (F.set 6 (by omega) _).trans (own' := QB qa) (Fr.of_ext x (D.setNext n hn).glt) (fun _ _ e => e), B⟩
set_option maxRecDepth 20000 in
set_option maxHeartbeats 4000000 in
theorem rtick_any (h : RD w g o a lc qa qc s) (ht : s.tk ≤ 255) :
    Calls Try.prog 30 #[.pointer (some ⟨g, o, none⟩)] w fun e w' => (∃ v, e = .returned v) ∧ Rd g o a lc qa s.tick w w' := by
  have c3 := h.c3
  cases ho : s.on with
  | false =>
    rw [ho] at c3
    have e : s.tick = s := by unfold Dv.tick; rw [if_neg (by rw [ho]; simp)]
    rw [e]
    have R0 : Hid (Rd g o a lc qa s w w) := Rd.of h (Fr.refl _ _ _ _)
    clear h
    go_enter Try.func30, Try.ntmps30
    go_wp2_with fail
    (try simp only [Exit.inBlock, Exit.then]); refine bodyPost_ret (results_none rfl _ _ _) rfl ?_
    exact ⟨⟨_, rfl⟩, R0.out⟩
  | true =>
    rw [ho] at c3
    have c5 := h.c5
    have f5 := h.f (o + 5)
    have h2 : 1 ≤ s.per ∧ s.per ≤ 256 := h.n2
    have hD : RD (w.setCell ⟨g, o + 5, none⟩ (.int .i64 ((s.tk : Int) + 1))) g o a lc qa qc { s with tk := s.tk + 1 } := h.setTk (s.tk + 1)
    have hF : Fr g o (QB qa) w (w.setCell ⟨g, o + 5, none⟩ (.int .i64 ((s.tk : Int) + 1))) := (Fr.refl _ _ _ _).set 5 (by omega) _
    have HD : Hid (RD (w.setCell ⟨g, o + 5, none⟩ (.int .i64 ((s.tk : Int) + 1))) g o a lc qa qc { s with tk := s.tk + 1 } ∧ Fr g o (QB qa) w (w.setCell ⟨g, o + 5, none⟩ (.int .i64 ((s.tk : Int) + 1)))) := ⟨hD, hF⟩
    go_enter Try.func30, Try.ntmps30
    go_upto_region 2 with fail
    clear c3 c5 f5 h hF
    generalize (w.setCell ⟨g, o + 5, none⟩ (.int .i64 ((s.tk : Int) + 1))) = w1 at *
    have c4 := hD.c4
    have c5 : w1.cell? ⟨g, o + 5, none⟩ = some (.int .i64 ((s.tk : Int) + 1)) := hD.c5
    clear hD
    go_quiet (fail)
    have H2 : Hid (RD (w1.drewN nq) g o a lc qa qc { s with tk := s.tk + 1 } ∧ Fr g o (QB qa) w (w1.drewN nq)) := ⟨HD.out.1.ext (drewN_ext nq), HD.out.2.trans (own' := QB qa) (Fr.of_ext (drewN_ext nq) HD.out.1.glt) (fun _ _ e => e)⟩
    clear HD c4 c5
    generalize w1.drewN nq = w2 at *
    have f5 := H2.out.1.f (o + 5)
    have c5 := H2.out.1.c5
    by_cases hp : s.per ≤ s.tk + 1
    · have e : Hid (s.tick = Dv.meas { s with tk := 0 }) := by show _ = _; unfold Dv.tick; rw [if_pos ho, if_pos hp]
      have hpi : (s.per : Int) ≤ s.tk + 1 := by omega
      have hpi2 : ¬ (s.tk : Int) + 1 < (s.per : Int) := by omega
      have hD : RD (w2.setCell ⟨g, o + 5, none⟩ (.int .i64 0)) g o a lc qa qc { s with tk := 0 } := H2.out.1.setTk 0
      have HD : Hid (RD (w2.setCell ⟨g, o + 5, none⟩ (.int .i64 0)) g o a lc qa qc { s with tk := 0 } ∧ Fr g o (QB qa) w (w2.setCell ⟨g, o + 5, none⟩ (.int .i64 0))) := ⟨hD, H2.out.2.set 5 (by omega) _⟩
      clear H2
      go_upto_region 4 with fail
      clear c5 f5
      generalize w2.setCell ⟨g, o + 5, none⟩ (.int .i64 0) = w3 at *
      have c2 : w3.cell? ⟨g, o + 2, none⟩ = some (.slice a s.list.length lc) := hD.c2
      have c8 : w3.cell? ⟨g, o + 8, none⟩ = some (.slice qa s.q.length qc) := hD.c8
      by_cases hl0 : s.list.length = 0
      · have em : Hid (Dv.meas { s with tk := 0 } = { s with tk := 0 }) := by show _ = _; unfold Dv.meas; rw [if_pos hl0]
        rw [hl0] at c2
        clear hD
        go_wp2_with fail
        (try simp only [Exit.inBlock, Exit.then]); refine bodyPost_ret (results_none rfl _ _ _) rfl ?_
        rw [e.out, em.out]
        exact ⟨⟨_, rfl⟩, Rd.of HD.out.1 HD.out.2⟩
      · have hlb : ((s.list.length : Int) == 0) = false := beq_eq_false_iff_ne.2 (by omega)
        have hne : (s.list.length : Int) ≠ 0 := by omega
        have hlp : 0 < s.list.length := by omega
        have hn : s.next < s.list.length := hD.n0 hlp
        have hl4 : s.list.length ≤ 4096 := hD.n1
        have hnx : (s.next + 1) % s.list.length < s.list.length := Nat.mod_lt _ hlp
        have HC : Hid (((s.next : Int) + 1) % (s.list.length : Int) = (((s.next + 1) % s.list.length : Nat) : Int)) := by show _ = _; simp
        have HC2 : Hid ((wrap64 ((s.next : Int) + 1)).tmod (s.list.length : Int) = (((s.next + 1) % s.list.length : Nat) : Int)) := by
          show _ = _
          have ew : wrap64 ((s.next : Int) + 1) = (s.next : Int) + 1 := by unfold wrap64; omega
          rw [ew, Int.tmod_eq_emod_of_nonneg (by omega), HC.out]
        by_cases hr : s.q.length < 16
        · have hri : (s.q.length : Int) < 16 := by omega
          have em : Hid (Dv.meas { s with tk := 0 } = { s with tk := 0, q := s.q ++ [smp s.list s.next], next := (s.next + 1) % s.list.length }) := by show _ = _; unfold Dv.meas; rw [if_neg hl0, if_pos hr]
          go_upto_region 6 with fail
          have c6 : w3.cell? ⟨g, o + 6, none⟩ = some (.int .i64 s.next) := hD.c6
          obtain ⟨b2, o2, ha, hc⟩ := hD.li s.next hn
          have hc' : C4 w3 b2 (o2 + s.next * 4) (smp s.list s.next) := hc
          subst ha
          obtain ⟨i1, i2, i3, i4⟩ := hc'
          generalize smp s.list s.next = z at *
          have ne1 := Nat.ne_of_lt hD.glt
          have ne2 := Nat.ne_of_gt hD.glt
          have ltb := World.block_lt_of_cell? w3 _ i1
          have ne3 := Nat.ne_of_lt ltb
          have ne4 := Nat.ne_of_gt ltb
          have hni : (s.next : Int) < (s.list.length : Int) := by omega
          have x4 : Ext w3 (w3.drew.alloc (cells4 z)) := ((Ext.refl w3).drew).alloc _
          have HX4 : Hid (RD (w3.drew.alloc (cells4 z)) g o (some ⟨b2, o2, none⟩) lc qa qc { s with tk := 0 } ∧ Fr g o (QB qa) w (w3.drew.alloc (cells4 z)) ∧ w.heap.size ≤ (w3.drew.alloc (cells4 z)).heap.size) := ⟨hD.ext x4, HD.out.2.trans (own' := QB qa) (Fr.of_ext x4 hD.glt) (fun _ _ e => e), Nat.le_trans HD.out.2.t.size x4.size⟩
          have hq100 : s.q.length ≤ 100 := by omega
          have ka8 : (w3.alloc (.cells #[.int .i64 z.x, .int .i64 z.y, .int .i64 z.z, .int .i64 z.t] Erw)).cell? ⟨g, o + 8, none⟩ = some (.slice qa s.q.length qc) := ((Ext.refl w3).alloc _).keepc c8
          clear hD x4 ltb
          go_region_law (refine step_append_queue _ rfl (.tmp 43) (.tmp 55) rfl qa qc s.q rfl (by exact HX4.out.1.qu) hq100 ⟨_, 0, none⟩ 1 z rfl (by exact new4 _ z) ?_; intro qa' qc' w9 hQ9 hT9 hB9; have k8 := hT9.keepc (fun e => HX4.out.1.qg g e rfl) HX4.out.1.c8; have g8 := frozen_tn hT9 HX4.out.1.glt (fun e => HX4.out.1.qg g e rfl) (o + 8) (HX4.out.1.f (o + 8)); have R9 : Hid (RD (w9.setCell ⟨g, o + 8, none⟩ (.slice qa' (s.q.length + 1) qc')) g o (some ⟨b2, o2, none⟩) lc qa' qc' { s with tk := 0, q := s.q ++ [z] } ∧ Fr g o (QB qa) w (w9.setCell ⟨g, o + 8, none⟩ (.slice qa' (s.q.length + 1) qc')) ∧ ∀ k, QB qa' k → QB qa k ∨ w.heap.size ≤ k) := (by have hr9 := HX4.out.1.requeue hT9 hQ9 (by simp; omega) hB9; rw [show (s.q ++ [z]).length = s.q.length + 1 by simp] at hr9; exact ⟨hr9, HX4.out.2.1.requeue hT9 (fun e => HX4.out.1.qg g e rfl) HX4.out.1.glt _, fun k hk => (hB9 k hk).imp id (fun h => Nat.le_trans HX4.out.2.2 h)⟩); clear hQ9 hT9 hB9)
          all_goals
            clear c2 c6 c8 i1 i2 i3 i4 ka8 k8 g8 ne1 ne2 ne3 ne4 HX4
            generalize w9.setCell ⟨g, o + 8, none⟩ (.slice qa' (s.q.length + 1) qc') = w10 at *
            have c2 : w10.cell? ⟨g, o + 2, none⟩ = some (.slice (some ⟨b2, o2, none⟩) s.list.length lc) := R9.out.1.c2
            have c6 : w10.cell? ⟨g, o + 6, none⟩ = some (.int .i64 s.next) := R9.out.1.c6
            have f6 := R9.out.1.f (o + 6)
            go_upto_region 8 with fail
            go_region
            go_wp2_with fail
            go_end0
            first | rw [HC.out, e.out, em.out] | rw [HC2.out, e.out, em.out]
            exact ⟨⟨_, rfl⟩, Rd.nexted R9.out _ (fun _ => hnx)⟩
        · have hri : ¬ (s.q.length : Int) < 16 := by omega
          have em : Hid (Dv.meas { s with tk := 0 } = { s with tk := 0, lost := wrap64 (s.lost + 1), next := (s.next + 1) % s.list.length }) := by show _ = _; unfold Dv.meas; rw [if_neg hl0, if_neg hr]
          have c7 : w3.cell? ⟨g, o + 7, none⟩ = some (.int .i64 s.lost) := hD.c7
          have f7 := hD.f (o + 7)
          have R9 : Hid (RD (w3.setCell ⟨g, o + 7, none⟩ (.int .i64 (wrap64 (s.lost + 1)))) g o a lc qa qc { s with tk := 0, lost := wrap64 (s.lost + 1) } ∧ Fr g o (QB qa) w (w3.setCell ⟨g, o + 7, none⟩ (.int .i64 (wrap64 (s.lost + 1)))) ∧ ∀ k, QB qa k → QB qa k ∨ w.heap.size ≤ k) := ⟨hD.setLost _, HD.out.2.set 7 (by omega) _, fun _ hk => .inl hk⟩
          clear hD
          go_upto_region 8 with fail
          clear c2 c7 c8 f7
          generalize w3.setCell ⟨g, o + 7, none⟩ (.int .i64 (wrap64 (s.lost + 1))) = w10 at *
          have c2 : w10.cell? ⟨g, o + 2, none⟩ = some (.slice a s.list.length lc) := R9.out.1.c2
          have c6 : w10.cell? ⟨g, o + 6, none⟩ = some (.int .i64 s.next) := R9.out.1.c6
          have f6 := R9.out.1.f (o + 6)
          go_region
          go_wp2_with fail
          go_end0
          first | rw [HC.out, e.out, em.out] | rw [HC2.out, e.out, em.out]
          exact ⟨⟨_, rfl⟩, Rd.nexted R9.out _ (fun _ => hnx)⟩
    · have e : Hid (s.tick = { s with tk := s.tk + 1 }) := by show _ = _; unfold Dv.tick; rw [if_pos ho, if_neg hp]
      have hpi : (s.tk : Int) + 1 < (s.per : Int) := by omega
      go_wp2_with fail
      (try simp only [Exit.inBlock, Exit.then]); refine bodyPost_ret (results_none rfl _ _ _) rfl ?_
      rw [e.out]
      exact ⟨⟨_, rfl⟩, Rd.of H2.out.1 H2.out.2⟩
end
end Go.Proofs.Ytfgljkeohoffiaa
