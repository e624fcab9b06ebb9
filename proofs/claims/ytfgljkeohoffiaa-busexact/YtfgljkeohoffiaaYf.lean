/- The reference's bus: Do. -/
import Derived.Test.YtfgljkeohoffiaaYe
namespace Go.Proofs.Ytfgljkeohoffiaa
open Go.RowKit Go.Conc
theorem does_list9 (s : Dv) (reg : Nat) (l : List Nat) (n : Nat) : (s.does reg l n).list = s.list := by
  unfold Dv.does
  split
  · exact writes_list _ _ _ _
  · split <;> rfl
set_option maxRecDepth 20000 in
set_option maxHeartbeats 8000000 in
theorem rdo_any {w : World} {x : RA} {own : Nat → Prop} {s : Bs} (h : RB w x own s) (addr : Int) (reg n : Nat) (a : Option Addr) (l : List Nat) (c : Nat) (ho : okT addr reg l.length n = true) (hb : BR w a l) (ha : ∀ k off, 0 < l.length → a = some ⟨k, off, none⟩ → ¬ own k) (hi : 0 ≤ s.flt.idx) :
    Calls Try.prog 18 #[.pointer (some ⟨x.b, 0, none⟩), txv addr reg a l.length c n] w fun e w' => ∃ v, e = .returned (.agg #[.int .i64 (doB s addr reg l n).1, v]) ∧ w'.ownsRow w.heap.size Eb 1 v (doB s addr reg l n).2.1.length (bv (doB s addr reg l n).2.1) ∧ ∃ own', RB w' x own' (doB s addr reg l n).2.2 ∧ Tn own w w' ∧ ∀ k, own' k → own k ∨ w.heap.size ≤ k := by
  obtain ⟨ho1, ho2, hn⟩ : reg + l.length ≤ 20 ∧ ((0 < l.length → n = 0) ∧ (l.length = 0 → 0 < n)) ∧ n ≤ 128 := by
    unfold okT at ho
    simp only [Bool.and_eq_true] at ho
    obtain ⟨⟨_, h1⟩, h2⟩ := ho
    have h1 := inn_iff.1 h1
    by_cases h0 : 0 < l.length
    · rw [if_pos h0] at h2
      simp at h2
      omega
    · rw [if_neg h0] at h2
      have h2 := inn_iff.1 h2
      omega
  have hfl := h.flt
  have hxb := h.lt x.b h.ob
  have xA : Ext w ((w.alloc (txc addr reg a l.length c n)).alloc ansC) := ((Ext.refl _).alloc _).alloc _
  have R0 : Hid (RB ((w.alloc (txc addr reg a l.length c n)).alloc ansC) x own s) := h.ext xA
  have T0 : Hid (TX ((w.alloc (txc addr reg a l.length c n)).alloc ansC) w.heap.size addr reg a l.length c n) := tx_new.ext ((Ext.refl _).alloc _)
  have A0 : Hid (AV ((w.alloc (txc addr reg a l.length c n)).alloc ansC) (w.heap.size + 1)) := av_new (by simp)
  have B0 : Hid (BR ((w.alloc (txc addr reg a l.length c n)).alloc ansC) a l) := hb.ext xA
  have X0 : Hid (Ext w ((w.alloc (txc addr reg a l.length c n)).alloc ansC)) := xA
  have S0 : Hid (w.heap.size + 2 ≤ ((w.alloc (txc addr reg a l.length c n)).alloc ansC).heap.size) := by show _ ≤ _; simp
  have HLT : Hid (∀ k, own k → k < w.heap.size) := h.lt
  have HBL : Hid (∀ k, RBl x own s k → k < w.heap.size) := h.lts
  have HOB : Hid (own x.b) := h.ob
  clear hb xA ho
  go_enter Try.func18, Try.ntmps18
  go_upto_region 1 with fail
  generalize ((w.alloc (txc addr reg a l.length c n)).alloc ansC) = wa at *
  have c2 := R0.out.c2
  have f2 := R0.out.f 2
  go_upto_region 2 with fail
  have R1 : Hid (RB (wa.setCell ⟨x.b, 2, none⟩ (.int .i64 (wrap64 (s.cnt + 1)))) x own { s with cnt := wrap64 (s.cnt + 1) }) := R0.out.counted _
  have tC : Tn (fun j => j = x.b) wa (wa.setCell ⟨x.b, 2, none⟩ (.int .i64 (wrap64 (s.cnt + 1)))) := (Tn.refl (fun j => j = x.b) wa).set (.inl rfl) _ _
  have T1 : Hid (TX (wa.setCell ⟨x.b, 2, none⟩ (.int .i64 (wrap64 (s.cnt + 1)))) w.heap.size addr reg a l.length c n) := T0.out.tn tC (by omega)
  have A1 : Hid (AV (wa.setCell ⟨x.b, 2, none⟩ (.int .i64 (wrap64 (s.cnt + 1)))) (w.heap.size + 1)) := A0.out.tn tC (by omega)
  have B1' : Hid (BR (wa.setCell ⟨x.b, 2, none⟩ (.int .i64 (wrap64 (s.cnt + 1)))) a l) := B0.out.tn tC (fun k off h0 e q => ha k off h0 e (by rw [q]; exact h.ob))
  have X1 : Hid (Tn own w (wa.setCell ⟨x.b, 2, none⟩ (.int .i64 (wrap64 (s.cnt + 1))))) := (Tn.of_ext X0.out).trans tC (fun k _ e => by rw [e]; exact h.ob)
  have S1 : Hid (w.heap.size + 2 ≤ (wa.setCell ⟨x.b, 2, none⟩ (.int .i64 (wrap64 (s.cnt + 1)))).heap.size) := Nat.le_trans S0.out tC.size
  generalize (wa.setCell ⟨x.b, 2, none⟩ (.int .i64 (wrap64 (s.cnt + 1)))) = wb at *
  clear c2 f2 tC R0 T0 A0 B0 X0 S0
  have HFT : Hid (∀ W, Ext wb W → Calls Try.prog 38 #[.pointer (some ⟨x.b, 0, none⟩)] W fun e w' => e = .returned (fv s.flt) ∧ Ext W w') := fun W xx => by
    have q := rfault_any (R1.out.ext xx)
    dsimp only at q
    rw [hfl] at q
    exact q
  clear hfl
  obtain ⟨f, hf⟩ : ∃ f, s.flt = f := ⟨_, rfl⟩
  have HFf : Hid (s.flt = f) := hf
  rw [hf] at HFT hi
  clear hf
  obtain ⟨f0, f1, f2, f3⟩ := f
  go_upto_region 3 with (go_at_call 38; refine (HFT.out _ (Ext.refl _)).mono ?_; rintro e w1 ⟨rfl, x1⟩; (try dsimp only))
  have xF : Ext wb (w1.alloc (fc ⟨f0, f1, f2, f3⟩)) := x1.alloc _
  have R2 : Hid (RB (w1.alloc (fc ⟨f0, f1, f2, f3⟩)) x own { s with cnt := wrap64 (s.cnt + 1) }) := R1.out.ext xF
  have T2 : Hid (TX (w1.alloc (fc ⟨f0, f1, f2, f3⟩)) w.heap.size addr reg a l.length c n) := T1.out.ext xF
  have A2 : Hid (AV (w1.alloc (fc ⟨f0, f1, f2, f3⟩)) (w.heap.size + 1)) := A1.out.ext xF
  have B2' : Hid (BR (w1.alloc (fc ⟨f0, f1, f2, f3⟩)) a l) := B1'.out.ext xF
  have X2 : Hid (Tn own w (w1.alloc (fc ⟨f0, f1, f2, f3⟩))) := X1.out.more xF
  have F2 : Hid (F4 (w1.alloc (fc ⟨f0, f1, f2, f3⟩)) w1.heap.size 0 ⟨f0, f1, f2, f3⟩) := f4_new rfl
  have S2 : Hid (w.heap.size + 2 ≤ w1.heap.size ∧ w1.heap.size < (w1.alloc (fc ⟨f0, f1, f2, f3⟩)).heap.size) := ⟨Nat.le_trans S1.out x1.size, by simp⟩
  generalize (w1.alloc (fc ⟨f0, f1, f2, f3⟩)) = wc at *
  generalize w1.heap.size = nf at *
  clear x1 xF R1 T1 A1 B1' X1 S1 HFT
  obtain ⟨t0, t1, t2, t3⟩ := T2.out
  obtain ⟨fo, hfo⟩ : ∃ q, fnd s.D s.n addr = q := ⟨_, rfl⟩
  obtain ⟨m, hm⟩ : ∃ m : Int, fnum fo = m := ⟨_, rfl⟩
  have HFO : Hid (fnd s.D s.n addr = fo) := hfo
  have HFN : Hid (Calls Try.prog 35 #[.pointer (some ⟨x.b, 0, none⟩), .int .i64 addr] wc fun e w' => e = .returned (.int .i64 m) ∧ w' = wc) := by
    have q := rfind_any R2.out addr
    dsimp only at q
    rw [hfo, hm] at q
    exact q
  clear hfo
  go_upto_region 4 with (go_at_call 35; refine HFN.out.mono ?_; rintro e wx ⟨rfl, hwx⟩; have hwy := hwx.symm; clear hwx; subst hwy; (try dsimp only))
  clear HFN t0 t1 t2 t3
  obtain ⟨z0, z1, z2, z3⟩ := F2.out.intro
  obtain ⟨⟨m0, b0⟩, ⟨m1, b1⟩, p0, p1⟩ := A2.out
  have HNO : Hid (doB s addr reg l n = (2, [], { s with cnt := wrap64 (s.cnt + 1) }) → ∀ w9, w9 = (wc.setCell ⟨w.heap.size + 1, 0, none⟩ (.int .i64 2)).setCell ⟨w.heap.size + 1, 1, none⟩ (.slice none 0 0) → ∃ v, (Ending.returned (.agg #[.int .i64 2, .slice none 0 0])) = .returned (.agg #[.int .i64 (doB s addr reg l n).1, v]) ∧ w9.ownsRow w.heap.size Eb 1 v (doB s addr reg l n).2.1.length (bv (doB s addr reg l n).2.1) ∧ ∃ own', RB w9 x own' (doB s addr reg l n).2.2 ∧ Tn own w w9 ∧ ∀ k, own' k → own k ∨ w.heap.size ≤ k) := fun e w9 e9 => by
    subst e9
    rw [e]
    have tA : Tn (fun k => k = w.heap.size + 1) wc ((wc.setCell ⟨w.heap.size + 1, 0, none⟩ (.int .i64 2)).setCell ⟨w.heap.size + 1, 1, none⟩ (.slice none 0 0)) := ((Tn.refl (fun k => k = w.heap.size + 1) wc).set (.inl rfl) _ _).set (.inl rfl) _ _
    exact ⟨.slice none 0 0, rfl, World.ownsRow_nil _ _ _ _, own, R2.out.tn tA (fun k hk q => by have := HBL.out k hk; omega), X2.out.trans tA (fun k hk q => by omega), fun k q => .inl q⟩
  have h1b : ∀ b : Bool, decide (f1 = 1) = b → (f1 == 1) = b := fun b e => by rw [← e]; rfl
  cases fo with
  | none =>
    have hm1 : m = -1 := hm.symm
    subst hm1
    have e : doB s addr reg l n = (2, [], { s with cnt := wrap64 (s.cnt + 1) }) := by unfold doB; rw [HFO.out]
    have q := HNO.out e _ rfl
    clear hm e
    by_cases k1 : f1 = 1
    · have k2 := h1b true (by simpa using k1)
      clear h1b k1
      go_wp2_with fail
      exact bodyPost_ret (v := .agg #[.int .i64 2, .slice none 0 0]) (by simp [results, Try.results18, go_sem, b0, b1]) rfl q
    · have k2 := h1b false (by simpa using k1)
      clear h1b k1
      go_wp2_with fail
      exact bodyPost_ret (v := .agg #[.int .i64 2, .slice none 0 0]) (by simp [results, Try.results18, go_sem, b0, b1]) rfl q
  | some i =>
    have hm1 : m = (i : Int) := hm.symm
    subst hm1
    by_cases k1 : f1 = 1
    · have e : doB s addr reg l n = (2, [], { s with cnt := wrap64 (s.cnt + 1) }) := by
        unfold doB
        rw [HFO.out]
        dsimp only
        rw [HFf.out, if_pos k1]
      have q := HNO.out e _ rfl
      have k2 := h1b true (by simpa using k1)
      clear h1b k1 hm e
      go_wp2_with fail
      exact bodyPost_ret (v := .agg #[.int .i64 2, .slice none 0 0]) (by simp [results, Try.results18, go_sem, b0, b1]) rfl q
    · have k2 := h1b false (by simpa using k1)
      clear h1b HNO
      obtain ⟨hin, _⟩ := fnd_lt HFO.out
      have hini : (i : Int) < (s.n : Int) := by omega
      have hi0 : decide ((i : Int) < 0) = false := by simp
      have c0 := R2.out.c0
      rw [R2.out.d (show 0 < s.n by omega)] at c0
      obtain ⟨Q', QC, h1, h2, h3⟩ := R2.out.dv
      have D := h1 i hin
      go_upto_region 7 with fail
      rename_i K hK
      have HK0 : Hid (∀ (a : Act) (w : World), Code.wp Try.prog _ _ a w → K a w) := hK
      clear hK
      go_wp2_with fail
      refine HK0.out _ _ ?_
      have hS := S2.out
      have HOG : own x.g := R2.out.og (show 0 < s.n by omega)
      have HNB : ∀ k, w.heap.size ≤ k → ¬ (k = x.g ∨ QB (Q' i) k) := fun k hk e => by
        have : own k := e.elim (fun e => by rw [e]; exact HOG) (fun e => (h2 i k hin e).1)
        have := HLT.out k this
        omega
      have HF : Hid (∀ w1, Tn (fun k => k = x.g ∨ QB (Q' i) k) wc w1 → F4 w1 nf 0 ⟨f0, f1, f2, f3⟩ ∧ AV w1 (w.heap.size + 1) ∧ TX w1 w.heap.size addr reg a l.length c n ∧ BR w1 a l) := fun w1 t => ⟨F2.out.tn t (HNB _ (by omega)), A2.out.tn t (HNB _ (by omega)), T2.out.tn t (HNB _ (by omega)), B2'.out.tn t (fun k off h0 e q => ha k off h0 e (q.elim (fun q => by rw [q]; exact HOG) (fun q => (h2 i k hin q).1)))⟩
      obtain ⟨eS, eT⟩ := does_rd (s.D i) reg l n ho2
      have eD : doB s addr reg l n = (if f1 = 2 then (3, [], { s with cnt := wrap64 (s.cnt + 1), D := upd s.D i ((s.D i).does reg l n) }) else (1, corr ⟨f0, f1, f2, f3⟩ ((s.D i).tells reg l n), { s with cnt := wrap64 (s.cnt + 1), D := upd s.D i ((s.D i).does reg l n) })) := by
        unfold doB
        rw [HFO.out]
        dsimp only
        rw [HFf.out, if_neg k1]
      have HP : Hid (∀ (v' : Value) (w1 w' : World), Rdk x.g (i * 9) (x.A i) (x.LC i) (Q' i) (rdS ((s.D i).writes reg l l.length) reg n) wc w1 → Tn (fun k => k = w.heap.size + 1 ∨ wc.heap.size ≤ k) w1 w' → w'.ownsRow wc.heap.size Eb 1 v' (if f1 = 2 then [] else corr ⟨f0, f1, f2, f3⟩ (rdT ((s.D i).writes reg l l.length) reg n)).length (bv (if f1 = 2 then [] else corr ⟨f0, f1, f2, f3⟩ (rdT ((s.D i).writes reg l l.length) reg n))) → ∃ v, (Ending.returned (.agg #[.int .i64 (if f1 = 2 then 3 else 1), v'])) = .returned (.agg #[.int .i64 (doB s addr reg l n).1, v]) ∧ w'.ownsRow w.heap.size Eb 1 v (doB s addr reg l n).2.1.length (bv (doB s addr reg l n).2.1) ∧ ∃ own', RB w' x own' (doB s addr reg l n).2.2 ∧ Tn own w w' ∧ ∀ k, own' k → own k ∨ w.heap.size ≤ k) := fun v' w1 w' r1 t1 o1 => by
        rw [eS] at r1
        rw [eT] at o1
        have rb1 := R2.out.turnedk h1 h2 h3 hin r1 (does_list9 _ _ _ _) (does_le _ _ _ _ (R2.out.tk i hin))
        obtain ⟨_, _, _, fr, _⟩ := id r1
        have t01 : Tn own wc w1 := fr.t.mono (fun k _ e => e.elim (fun e => by rw [e]; exact HOG) (fun e => (h2 i k hin e).1))
        have hsz := X2.out.size
        have rb2 : RB w' x own { s with cnt := wrap64 (s.cnt + 1), D := upd s.D i ((s.D i).does reg l n) } := rb1.tn t1 (fun k hk q => by
          have hk2 : RBl x own s k := by
            rcases hk with e | ⟨j, off, hj, h0, e⟩ | e
            · exact .inl e
            · refine .inr (.inl ⟨j, off, hj, ?_, e⟩)
              dsimp only at h0
              by_cases ej : j = i
              · subst ej
                rw [upd_at] at h0
                have el : ((s.D j).does reg l n).list = (s.D j).list := does_list9 _ _ _ _
                rw [el] at h0
                exact h0
              · rw [upd_ne _ _ ej] at h0
                exact h0
            · exact .inr (.inr e)
          have := HBL.out k hk2
          omega)
        have t02 : Tn own w w' := (X2.out.trans t01 (fun k _ e => e)).trans t1 (fun k hk q => by omega)
        have o2 := row_mono o1 hsz
        rw [eD]
        by_cases k2' : f1 = 2
        · rw [if_pos k2'] at o2 ⊢
          rw [if_pos k2']
          exact ⟨v', rfl, o2, own, rb2, t02, fun k q => .inl q⟩
        · rw [if_neg k2'] at o2 ⊢
          rw [if_neg k2']
          exact ⟨v', rfl, o2, own, rb2, t02, fun k q => .inl q⟩
      exact rdo_writes wc (w.heap.size + 1) nf w.heap.size x.g (i * 9) (x.A i) (Q' i) a (x.LC i) (QC i) c l (s.D i) ⟨f0, f1, f2, f3⟩ addr reg n _ _ rfl rfl _ _ _ _ _ _ _ _ _ _ _ _ _ _ _ _ _ _ _ _ _ _ _ _ _ _ _ _ _ _ _ _ _ _ _ _ _ _ _ _ _ _ _ _ _ _ _ _ _ _ _ _ _ _ _ _ _ _ _ _ _ _ _ _ _ _ _ _ _ _ _ _ _ _ _ _ _ _ _ _ _ _ _ _ _ _ _ _ _ _ _ _ _ _ _ _ _ _ _ _ _ _ _ _ _ _ _ _ _ _ _ D HF (by omega) hi ho1 hn HP
end Go.Proofs.Ytfgljkeohoffiaa
