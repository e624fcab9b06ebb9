/- bus: Do. -/
import Derived.Test.YtfgljkeohoffiaaGq
namespace Go.Proofs.Ytfgljkeohoffiaa
open Go.RowKit Go.Conc
theorem turn_list (s : Dv) (b : Bool) : (s.turn b).list = s.list := by
  unfold Dv.turn
  split
  · split <;> rfl
  · rfl
theorem write_list (s : Dv) (r x : Nat) : (s.write r x).list = s.list := by
  unfold Dv.write
  split
  · exact turn_list s _
  split
  · rfl
  split
  · split
    · exact turn_list s false
    · rfl
  · rfl
theorem writes_list (s : Dv) (r : Nat) (l : List Nat) : ∀ k, (s.writes r l k).list = s.list
  | 0 => rfl
  | k + 1 => (write_list _ _ _).trans (writes_list s r l k)
theorem does_list (s : Dv) (r : Nat) (l : List Nat) (n : Nat) : (s.does r l n).list = s.list := by
  unfold Dv.does
  split
  · exact writes_list s r l _
  · split <;> rfl
/-- the fault of the next transaction -/
def Bs.flt (s : Bs) : Flt := (Go.Proofs.Ytfgljkeohoffiaa.flt s.F (wrap64 (s.cnt + 1))).getD noF
/-- a byte of the data turned -/
def corr (f : Flt) (d : List Int) : List Int :=
  if f.kind = 3 ∧ 0 < d.length then d.set (f.idx.toNat % d.length) (bits BinOp.xor IntKind.u8 (d.getD (f.idx.toNat % d.length) 0) f.xor) else d
theorem corr_len (f : Flt) (d : List Int) : (corr f d).length = d.length := by unfold corr; split <;> simp
/-- what a transaction answers, and what the bus is like behind it -/
def doB (s : Bs) (addr : Int) (reg : Nat) (l : List Nat) (n : Nat) : Int × List Int × Bs :=
  match fnd s.D s.n addr with
  | none => (2, [], { s with cnt := wrap64 (s.cnt + 1) })
  | some i =>
    if s.flt.kind = 1 then (2, [], { s with cnt := wrap64 (s.cnt + 1) }) else
    if s.flt.kind = 2 then (3, [], { s with cnt := wrap64 (s.cnt + 1), D := upd s.D i ((s.D i).does reg l n) })
    else (1, corr s.flt ((s.D i).tells reg l n), { s with cnt := wrap64 (s.cnt + 1), D := upd s.D i ((s.D i).does reg l n) })
abbrev ansC : Obj := .cells #[.int .i64 0, .slice none 0 0] 57
/-- a variable of an answer -/
def AV (w : World) (b : Nat) : Prop := (∃ u, w.cell? ⟨b, 0, none⟩ = some u) ∧ (∃ u, w.cell? ⟨b, 1, none⟩ = some u) ∧ w.frozen? ⟨b, 0, none⟩ = false ∧ w.frozen? ⟨b, 1, none⟩ = false
theorem av_new {w : World} {k : Nat} (h : w.heap.size = k) : AV (w.alloc ansC) k := by
  subst h
  refine ⟨⟨.int .i64 0, ?_⟩, ⟨.slice none 0 0, ?_⟩, ?_, ?_⟩ <;> simp [go_sem]
theorem AV.ext {w w' : World} {b : Nat} (h : AV w b) (x : Ext w w') : AV w' b := by
  obtain ⟨⟨u, h0⟩, ⟨v, h1⟩, f0, f1⟩ := h
  exact ⟨⟨u, x.keepc h0⟩, ⟨v, x.keepc h1⟩, x.keepf h0 f0, x.keepf h1 f1⟩
theorem AV.tn {own : Nat → Prop} {w w' : World} {b : Nat} (h : AV w b) (x : Tn own w w') (hb : ¬ own b) : AV w' b := by
  obtain ⟨⟨u, h0⟩, ⟨v, h1⟩, f0, f1⟩ := h
  exact ⟨⟨u, x.keepc hb h0⟩, ⟨v, x.keepc hb h1⟩, x.keepf hb h0 f0, x.keepf hb h1 f1⟩
set_option maxRecDepth 20000 in
set_option maxHeartbeats 4000000 in
theorem do_bad (w : World) (b : Nat) (addr reg : Int) (a : Option Addr) (len c : Nat) (n : Int) (hl : len ≤ maxLen) (hb : okT addr reg len n = false) :
    Calls Try.prog 16 #[.pointer (some ⟨b, 0, none⟩), txv addr reg a len c n] w fun e w' => e = .returned (.tuple #[.agg #[.int .i64 0, .slice none 0 0], .int .i64 1]) ∧ Ext w w' := by
  have x1 : Ext w ((w.alloc (txc addr reg a len c n)).alloc ansC) := ((Ext.refl w).alloc _).alloc _
  have HT := istx_any addr reg a len c n ((w.alloc (txc addr reg a len c n)).alloc ansC) hl
  rw [hb] at HT
  have t1 : TX ((w.alloc (txc addr reg a len c n)).alloc ansC) w.heap.size addr reg a len c n := tx_new.ext ((Ext.refl _).alloc _)
  have V1 : Hid (AV ((w.alloc (txc addr reg a len c n)).alloc ansC) (w.heap.size + 1)) := av_new (by simp)
  obtain ⟨k0, k1, k2, k3⟩ := t1
  clear hb
  go_enter Try.func16, Try.ntmps16
  go_upto_region 1 with fail
  generalize (w.alloc (txc addr reg a len c n)).alloc ansC = w1 at *
  go_wp2_with (go_at_call 36; refine HT.mono ?_; rintro e w2 ⟨rfl, x2⟩; obtain ⟨⟨u0, a0⟩, ⟨u1, a1⟩, f0, f1⟩ := V1.out.ext x2)
  have hx9 : Ext w ((w2.setCell ⟨w.heap.size + 1, 0, none⟩ (.int .i64 0)).setCell ⟨w.heap.size + 1, 1, none⟩ (.slice none 0 0)) := ((x1.trans x2).new (Nat.le_succ _) _ _).new (Nat.le_succ _) _ _
  exact bodyPost_ret (v := .tuple #[.agg #[.int .i64 0, .slice none 0 0], .int .i64 1]) (by simp [results, Try.results16, go_sem, a0, a1]) rfl ⟨rfl, hx9⟩
/-- the count alone has turned -/
theorem IsBus.counted {w : World} {y : BA} {s : Bs} (h : IsBus w y s) (k : Int) : Bd y { s with cnt := k } w (w.setCell ⟨y.b, 2, none⟩ (.int .i64 k)) := by
  have t : Tn (fun j => j = y.b) w (w.setCell ⟨y.b, 2, none⟩ (.int .i64 k)) := (Tn.refl (fun j => j = y.b) w).set (.inl rfl) _ _
  have c0 := h.d.c0
  have c1 := h.c1
  have c2 := h.c2
  refine ⟨⟨⟨by simp [go_sem, c0], fun j => by rw [World.frozen?_setCell]; exact h.d.f j, row_tn h.d.row t (fun k _ e q => h.d.vb (by rw [← q]; exact e)), fun i hi => (h.d.dev i hi).tn t (fun k o e => h.d.ab i hi (by rw [← h.d.len i hi]; exact e ▸ o)), h.d.len, h.d.ap, h.d.ab, h.d.av, h.d.vb, h.d.n8⟩, by simp [go_sem, c1], by simp [go_sem, c2], h.mp.tn t (fun e => h.mf (.inl e)), h.mf, h.hn, h.tk⟩, t.mono (fun k _ e => .inl (.inl e))⟩
theorem row_form {w : World} {B : Nat} {e : TypeId} {s n : Nat} {v : Value} {xs : List Value} (h : w.ownsRow B e s v n xs) : ∃ a c, v = .slice a n c := by
  rcases h.2 with ⟨e1, e2⟩ | ⟨g, cap, cur, e1, _⟩
  · exact ⟨none, 0, by rw [e1, e2]⟩
  · exact ⟨_, _, e1⟩
theorem row_some {w : World} {B n : Nat} {v : Value} {xs : List Int} (h : w.ownsRow B Eb 1 v n (bv xs)) (hn : 0 < n) : ∃ g c, v = .slice (some ⟨g, 0, none⟩) n c ∧ ∀ j, j < n → w.cell? ⟨g, j, none⟩ = some (.int .u8 (xs.getD j 0)) := by
  have h' := h
  rcases h.2 with ⟨e1, e2⟩ | ⟨g, cap, cur, e1, _⟩
  · omega
  · refine ⟨g, cap, e1, fun j hj => ?_⟩
    rw [e1] at h'
    have hl := h.1
    rw [bv_len] at hl
    rw [h'.cellAt j (by omega)]
    have : j < xs.length := by omega
    simp [bv, this]
theorem row_mono {w : World} {B B' : Nat} {e : TypeId} {s n : Nat} {v : Value} {xs : List Value} (h : w.ownsRow B e s v n xs) (hb : B' ≤ B) : w.ownsRow B' e s v n xs := by
  refine ⟨h.1, ?_⟩
  rcases h.2 with e1 | ⟨g, cap, cur, hv, hb2, hr⟩
  · exact .inl e1
  · exact .inr ⟨g, cap, cur, hv, by omega, hr⟩
/-- the fault is known -/
structure D1 (w w4 : World) (y : BA) (s : Bs) (addr : Int) (reg : Nat) (a : Option Addr) (l : List Nat) (c : Nat) (n : Int) (vf : Nat) (f : Flt) : Prop where
  bb : IsBus w4 y s
  tt : Tn (FB y) w w4
  xx : TX w4 w.heap.size addr reg a l.length c n
  vv : AV w4 (w.heap.size + 1)
  ff : F4 w4 vf 0 f
  ll : w.heap.size + 1 < vf
  rr : BR w4 a l
theorem F4.intro {w : World} {b : Nat} {f0 f1 f2 f3 : Int} (h : F4 w b 0 ⟨f0, f1, f2, f3⟩) : w.cell? ⟨b, 0, none⟩ = some (.int .i64 f0) ∧ w.cell? ⟨b, 1, none⟩ = some (.int .i64 f1) ∧ w.cell? ⟨b, 2, none⟩ = some (.int .i64 f2) ∧ w.cell? ⟨b, 3, none⟩ = some (.int .u8 f3) := h
set_option maxRecDepth 20000 in
set_option maxHeartbeats 8000000 in
theorem do_ok (w : World) {y : BA} {s : Bs} (h : IsBus w y s) (addr : Int) (reg : Nat) (a : Option Addr) (l : List Nat) (c n : Nat) (hl : l.length ≤ maxLen) (ho : okT addr reg l.length n = true) (hb : BR w a l) (ha : ∀ k off, 0 < l.length → a = some ⟨k, off, none⟩ → ¬ FB y k) (hi : ∀ k, 0 ≤ ((flt s.F k).getD noF).idx) :
    Calls Try.prog 16 #[.pointer (some ⟨y.b, 0, none⟩), txv addr reg a l.length c n] w fun e w' => ∃ v, e = .returned (.tuple #[.agg #[.int .i64 (doB s addr reg l n).1, v], .int .i64 0]) ∧ w'.ownsRow w.heap.size Eb 1 v (doB s addr reg l n).2.1.length (bv (doB s addr reg l n).2.1) ∧ Bd y (doB s addr reg l n).2.2 w w' := by
  have x1 : Ext w ((w.alloc (txc addr reg a l.length c n)).alloc ansC) := ((Ext.refl w).alloc _).alloc _
  have HT := istx_any addr reg a l.length c n ((w.alloc (txc addr reg a l.length c n)).alloc ansC) hl
  rw [ho] at HT
  have t1 : TX ((w.alloc (txc addr reg a l.length c n)).alloc ansC) w.heap.size addr reg a l.length c n := tx_new.ext ((Ext.refl _).alloc _)
  have V1 : Hid (AV ((w.alloc (txc addr reg a l.length c n)).alloc ansC) (w.heap.size + 1)) := av_new (by simp)
  have T1 : Hid (TX ((w.alloc (txc addr reg a l.length c n)).alloc ansC) w.heap.size addr reg a l.length c n) := t1
  have hs1 : ((w.alloc (txc addr reg a l.length c n)).alloc ansC).heap.size = w.heap.size + 2 := by simp
  have HS1 : Hid (((w.alloc (txc addr reg a l.length c n)).alloc ansC).heap.size = w.heap.size + 2) := hs1
  have H1 : Hid (IsBus ((w.alloc (txc addr reg a l.length c n)).alloc ansC) y s) := h.ext x1
  have HR1 : Hid (BR ((w.alloc (txc addr reg a l.length c n)).alloc ansC) a l) := hb.ext x1
  have HLT : Hid (∀ k, FB y k → k < w.heap.size) := h.lt
  have HA : Hid (∀ k off, 0 < l.length → a = some ⟨k, off, none⟩ → ¬ FB y k) := ha
  have HO : Hid (reg ≤ 5 ∧ ((1 ≤ l.length ∧ l.length ≤ 8) ∨ (l.length = 0 ∧ 1 ≤ n ∧ n ≤ 128))) := by
    unfold okT at ho
    simp only [Bool.and_eq_true, inn_iff] at ho
    obtain ⟨⟨_, h2⟩, h3⟩ := ho
    refine ⟨by omega, ?_⟩
    split at h3
    · simp only [Bool.and_eq_true, decide_eq_true_eq] at h3
      exact .inl ⟨by omega, h3.1⟩
    · rw [inn_iff] at h3
      exact .inr ⟨by omega, by omega, by omega⟩
  have HIX : Hid (0 ≤ s.flt.idx) := hi _
  obtain ⟨k0, k1, k2, k3⟩ := t1
  clear ho hs1 h hb ha hi
  go_enter Try.func16, Try.ntmps16
  go_upto_region 1 with fail
  generalize (w.alloc (txc addr reg a l.length c n)).alloc ansC = w1 at *
  go_upto_region 3 with (go_at_call 36; refine HT.mono ?_; rintro e w2 ⟨rfl, x2⟩)
  have h2 := H1.out.ext x2
  have c2 := h2.c2
  have f2 := h2.d.f 2
  have hC := h2.counted (wrap64 (s.cnt + 1))
  go_upto_region 4 with fail
  have HX : Hid (Ext w w2) := x1.trans x2
  have V3 : Hid (AV w2 (w.heap.size + 1)) := V1.out.ext x2
  have T3 : Hid (TX w2 w.heap.size addr reg a l.length c n) := T1.out.ext x2
  have R3 : Hid (BR w2 a l) := HR1.out.ext x2
  have hs2 : w.heap.size + 2 ≤ w2.heap.size := by have := x2.size; rw [HS1.out] at this; exact this
  have H3 : Hid (Bd y { s with cnt := wrap64 (s.cnt + 1) } w2 (w2.setCell ⟨y.b, 2, none⟩ (.int .i64 (wrap64 (s.cnt + 1))))) := hC
  have hs3 : (w2.setCell ⟨y.b, 2, none⟩ (.int .i64 (wrap64 (s.cnt + 1)))).heap.size = w2.heap.size := size_setCell' _ _ _
  have HS3 : Hid (w.heap.size + 2 ≤ (w2.setCell ⟨y.b, 2, none⟩ (.int .i64 (wrap64 (s.cnt + 1)))).heap.size) := by show _ ≤ _; rw [hs3]; exact hs2
  clear hC h2 c2 f2 k0 k1 k2 k3 hs3 hs2 HT
  have HEF : Hid ((flt s.F (wrap64 (s.cnt + 1))).getD noF = s.flt) := rfl
  generalize (w2.setCell ⟨y.b, 2, none⟩ (.int .i64 (wrap64 (s.cnt + 1)))) = w3 at *
  have c1 := H3.out.1.c1
  have c2 : w3.cell? ⟨y.b, 2, none⟩ = some (.int .i64 (wrap64 (s.cnt + 1))) := H3.out.1.c2
  have ltb : y.b < w3.heap.size := by have := HLT.out y.b (.inl (.inl rfl)); have := HS3.out; omega
  have n3 := Nat.ne_of_lt ltb
  have n4 := Nat.ne_of_gt ltb
  have HM : Hid (MapOk w3 y.m s.F) := H3.out.1.mp
  have hlk1 := look_map w3.drew (h := HM.out.ext (drewN_ext 1)) (wrap64 (s.cnt + 1))
  have hlk2 := look_map (w3.alloc (fc noF)).drew (h := (HM.out.ext ((Ext.refl w3).alloc (fc noF))).ext (drewN_ext 1)) (wrap64 (s.cnt + 1))
  rw [HEF.out] at hlk1 hlk2
  have HFD : Hid (D1 w (w3.alloc (fc s.flt)).drew y { s with cnt := wrap64 (s.cnt + 1) } addr reg a l c n w3.heap.size s.flt) := by
    have x4 : Ext w3 (w3.alloc (fc s.flt)).drew := ((Ext.refl w3).alloc _).drew
    have t3 : Tn (FB y) w w3 := (Tn.of_ext HX.out).trans H3.out.2 (fun _ _ o => o)
    have nb : ∀ k, w.heap.size ≤ k → ¬ FB y k := fun k hk o => by have := HLT.out k o; omega
    have f4 : F4 (w3.alloc (fc s.flt)).drew w3.heap.size 0 s.flt := (f4_new rfl).ext (drewN_ext 1)
    exact ⟨H3.out.1.ext x4, t3.more x4, (T3.out.tn H3.out.2 (nb _ (Nat.le_refl _))).ext x4, (V3.out.tn H3.out.2 (nb _ (Nat.le_succ _))).ext x4, f4, by have := HS3.out; omega, (R3.out.tn H3.out.2 HA.out).ext x4⟩
  generalize hfl : s.flt = f at *
  have HFL : Hid (s.flt = f) := hfl
  clear hfl HEF
  obtain ⟨f0, f1, f2, f3⟩ := f
  simp only [fc, fv, noF] at hlk1 hlk2
  go_cut [6] (fun v wx => ∃ vf, v = .pointer (some ⟨vf, 0, none⟩) ∧ Hid (D1 w wx y { s with cnt := wrap64 (s.cnt + 1) } addr reg a l c n vf ⟨f0, f1, f2, f3⟩))
  case first =>
    go_region
    all_goals
      go_wp2_with fail
      go_meet
      exact ⟨_, rfl, HFD⟩
  case rest =>
    obtain ⟨vf, rfl, hD⟩ := hcut
    clear hlk1 hlk2 HFD c1 c2 ltb n3 n4 HM H3 HS3
    obtain ⟨k0, k1, k2, k3⟩ := hD.out.xx
    obtain ⟨y0, y1, y2, y3⟩ := hD.out.ff.intro
    obtain ⟨⟨u0, a0⟩, ⟨u1, a1⟩, g0, g1⟩ := hD.out.vv
    have HDV := device_any hD.out.bb.d addr
    rw [hD.out.bb.hn] at HDV
    dsimp only at HDV
    have HBd : Hid (∀ (st : Int) (w9 : World) (s9 : Bs), Bd y s9 w w9 → Bd y s9 w ((w9.setCell ⟨w.heap.size + 1, 0, none⟩ (.int .i64 st)).setCell ⟨w.heap.size + 1, 1, none⟩ (.slice none 0 0))) := fun st w9 s9 q => by
      have t : Tn (fun j => j = w.heap.size + 1) w9 ((w9.setCell ⟨w.heap.size + 1, 0, none⟩ (.int .i64 st)).setCell ⟨w.heap.size + 1, 1, none⟩ (.slice none 0 0)) := ((Tn.refl (fun j => j = w.heap.size + 1) w9).set (.inl rfl) _ _).set (.inl rfl) _ _
      exact ⟨q.1.tn t (fun k o e => by have := HLT.out k o; omega), q.2.trans t (fun k hk e => by omega)⟩
    have B4 : Hid (Bd y { s with cnt := wrap64 (s.cnt + 1) } w wc) := ⟨hD.out.bb, hD.out.tt⟩
    cases hf : fnd s.D s.n addr with
    | none =>
      rw [hf] at HDV
      have e : Hid (doB s addr reg l n = (2, [], { s with cnt := wrap64 (s.cnt + 1) })) := by show _ = _; unfold doB; rw [hf]
      simp only [dptr] at HDV
      clear hf
      go_wp2_with (go_at_call 33; refine HDV.mono ?_; rintro e w5 ⟨rfl, rfl⟩)
      refine bodyPost_ret (v := .tuple #[.agg #[.int .i64 2, .slice none 0 0], .int .i64 0]) (by simp [results, Try.results16, go_sem, a0, a1]) rfl ⟨.slice none 0 0, by rw [e.out], by rw [e.out]; exact World.ownsRow_nil _ _ _ _, by rw [e.out]; exact HBd.out _ _ _ B4.out⟩
    | some i =>
      rw [hf] at HDV
      have hi := (fnd_lt hf).1
      simp only [dptr] at HDV
      by_cases h1 : f1 = 1
      · subst h1
        have e : Hid (doB s addr reg l n = (2, [], { s with cnt := wrap64 (s.cnt + 1) })) := by show _ = _; unfold doB; rw [hf, HFL.out]; rfl
        clear hf
        go_wp2_with (go_at_call 33; refine HDV.mono ?_; rintro e w5 ⟨rfl, rfl⟩)
        refine bodyPost_ret (v := .tuple #[.agg #[.int .i64 2, .slice none 0 0], .int .i64 0]) (by simp [results, Try.results16, go_sem, a0, a1]) rfl ⟨.slice none 0 0, by rw [e.out], by rw [e.out]; exact World.ownsRow_nil _ _ _ _, by rw [e.out]; exact HBd.out _ _ _ B4.out⟩
      · have h1b : (f1 == 1) = false := by simpa using h1
        have hin : i < y.n := by rw [hD.out.bb.hn]; exact hi
        have hdv : IsDev wc (y.X i) (s.D i) := hD.out.bb.d.dev i hin
        have HDO : Hid (Calls Try.prog 37 #[.pointer (some ⟨(y.X i).p, 0, none⟩), txv addr reg a l.length c n] wc fun e w' => ∃ v, e = .returned v ∧ Hid (w'.ownsRow wc.heap.size Eb 1 v ((s.D i).tells reg l n).length (bv ((s.D i).tells reg l n)) ∧ Bd y { s with cnt := wrap64 (s.cnt + 1), D := upd s.D i ((s.D i).does reg l n) } w w' ∧ F4 w' vf 0 ⟨f0, f1, f2, f3⟩ ∧ AV w' (w.heap.size + 1))) := by
          refine (do_any wc hdv addr reg a l c n HO.out.1 HO.out.2 hD.out.rr (fun k off h0 ea o => HA.out k off h0 ea (.inl (.inr (.inr ⟨i, hin, .inl o⟩))))).mono ?_
          rintro e w' ⟨v, he, o, d⟩
          have nb : ∀ k, w.heap.size ≤ k → ¬ DO (y.X i) k := fun k hk o => by have := HLT.out k (.inl (.inr (.inr ⟨i, hin, .inl o⟩))); omega
          have q := hD.out.bb.turned hin d (does_list _ _ _ _) (does_le _ _ _ _ (hD.out.bb.tk i hin))
          exact ⟨v, he, o, ⟨q.1, hD.out.tt.trans q.2 (fun _ _ o => o)⟩, hD.out.ff.tn d.2 (nb _ (by have := hD.out.ll; omega)), hD.out.vv.tn d.2 (nb _ (Nat.le_succ _))⟩
        clear hdv
        have HE : Hid (doB s addr reg l n = if f1 = 2 then (3, [], { s with cnt := wrap64 (s.cnt + 1), D := upd s.D i ((s.D i).does reg l n) }) else (1, corr ⟨f0, f1, f2, f3⟩ ((s.D i).tells reg l n), { s with cnt := wrap64 (s.cnt + 1), D := upd s.D i ((s.D i).does reg l n) })) := by
          show _ = _
          unfold doB
          rw [hf, HFL.out]
          show (if f1 = 1 then _ else _) = _
          rw [if_neg h1]
        have HWC : Hid (w.heap.size ≤ wc.heap.size) := hD.out.tt.size
        clear hf hin B4
        generalize hT : (s.D i).tells reg l n = data at *
        generalize (s.D i).does reg l n = dd at *
        clear hT
        generalize hs2 : ({ s with cnt := wrap64 (s.cnt + 1), D := upd s.D i dd } : Bs) = s2 at *
        clear hs2
        by_cases h2 : f1 = 2
        · subst h2
          have e : Hid (doB s addr reg l n = (3, [], s2)) := by show _ = _; rw [HE.out]; rfl
          clear HE
          go_wp2_with (first | (go_at_call 33; refine HDV.mono ?_; rintro e w5 ⟨rfl, rfl⟩) | (go_at_call 37; refine HDO.out.mono ?_; rintro e w6 ⟨v, rfl, h6⟩; obtain ⟨z0, z1, z2, z3⟩ := h6.out.2.2.1.intro; obtain ⟨⟨m0, b0⟩, ⟨m1, b1⟩, p0, p1⟩ := h6.out.2.2.2))
          refine bodyPost_ret (v := .tuple #[.agg #[.int .i64 3, .slice none 0 0], .int .i64 0]) (by simp [results, Try.results16, go_sem, b0, b1]) rfl ⟨.slice none 0 0, by rw [e.out], by rw [e.out]; exact World.ownsRow_nil _ _ _ _, by rw [e.out]; exact HBd.out _ _ _ h6.out.2.1⟩
        · have h2b : (f1 == 2) = false := by simpa using h2
          have e : Hid (doB s addr reg l n = (1, corr ⟨f0, f1, f2, f3⟩ data, s2)) := by show _ = _; rw [HE.out, if_neg h2]
          clear HE
          have HB2 : Hid (∀ (v : Value) (w9 : World), Bd y s2 w w9 → w9.ownsRow wc.heap.size Eb 1 v data.length (bv (corr ⟨f0, f1, f2, f3⟩ data)) → ((w9.setCell ⟨w.heap.size + 1, 0, none⟩ (.int .i64 1)).setCell ⟨w.heap.size + 1, 1, none⟩ v).ownsRow w.heap.size Eb 1 v (doB s addr reg l n).2.1.length (bv (doB s addr reg l n).2.1) ∧ Bd y (doB s addr reg l n).2.2 w ((w9.setCell ⟨w.heap.size + 1, 0, none⟩ (.int .i64 1)).setCell ⟨w.heap.size + 1, 1, none⟩ v)) := fun v w9 q o => by
            have t : Tn (fun j => j = w.heap.size + 1) w9 ((w9.setCell ⟨w.heap.size + 1, 0, none⟩ (.int .i64 1)).setCell ⟨w.heap.size + 1, 1, none⟩ v) := ((Tn.refl (fun j => j = w.heap.size + 1) w9).set (.inl rfl) _ _).set (.inl rfl) _ _
            have hv : w.heap.size + 1 < wc.heap.size := World.block_lt_of_cell? wc ⟨w.heap.size + 1, 0, none⟩ a0
            rw [e.out]
            refine ⟨?_, q.1.tn t (fun k o e => by have := HLT.out k o; omega), q.2.trans t (fun k hk e => by omega)⟩
            rw [corr_len]
            exact row_mono (row_tn o t (fun k hk _ e => by omega)) HWC.out
          have HE1 : Hid ((doB s addr reg l n).1 = 1) := by show _ = _; rw [e.out]
          by_cases h3 : f1 = 3
          · subst h3
            by_cases h0 : 0 < data.length
            · have h0i : (0 : Int) < (data.length : Int) := by omega
              obtain ⟨ix, rfl⟩ : ∃ ix : Nat, f2 = (ix : Int) := by
                have := HIX.out
                dsimp only at this
                exact ⟨f2.toNat, by omega⟩
              have ec : Hid (corr ⟨f0, 3, ix, f3⟩ data = data.set (ix % data.length) (bits BinOp.xor IntKind.u8 (data.getD (ix % data.length) 0) f3)) := by
                show _ = _
                unfold corr
                rw [if_pos ⟨rfl, h0⟩]
                rfl
              have hne : (data.length : Int) ≠ 0 := by omega
              obtain ⟨q, eq, hqi, hq⟩ : ∃ q : Nat, ix % data.length = q ∧ (ix : Int) % (data.length : Int) = (q : Int) ∧ q < data.length := ⟨_, rfl, by simp, Nat.mod_lt _ h0⟩
              have hqq : (q : Int) < (data.length : Int) := by omega
              rw [eq] at ec
              clear eq
              clear e
              go_upto_region 12 with (first | (go_at_call 33; refine HDV.mono ?_; rintro e w5 ⟨rfl, rfl⟩) | (go_at_call 37; refine HDO.out.mono ?_; rintro e w6 ⟨v, rfl, h6⟩; obtain ⟨z0, z1, z2, z3⟩ := h6.out.2.2.1.intro; obtain ⟨⟨m0, b0⟩, ⟨m1, b1⟩, p0, p1⟩ := h6.out.2.2.2; obtain ⟨g, vc, rfl, jc⟩ := row_some h6.out.1 h0))
              have jf := h6.out.1.frozenAt q
              have jq := jc q hq
              have HST : Hid (w6.drew.setCell ⟨g, q, none⟩ (.int .u8 (bits BinOp.xor IntKind.u8 (data.getD q 0) f3)) |>.ownsRow w5.heap.size Eb 1 (.slice (some ⟨g, 0, none⟩) data.length vc) data.length (bv (data.set q (bits BinOp.xor IntKind.u8 (data.getD q 0) f3)))) := by
                have o := (row_ext h6.out.1 (drewN_ext 1)).stored q (.int .u8 (bits BinOp.xor IntKind.u8 (data.getD q 0) f3))
                rw [show bv (data.set q (bits BinOp.xor IntKind.u8 (data.getD q 0) f3)) = (bv data).set q (.int .u8 (bits BinOp.xor IntKind.u8 (data.getD q 0) f3)) by unfold bv; rw [List.map_set]]
                exact o.1
              have lg := (h6.out.1.lt g rfl).1
              have lv := World.block_lt_of_cell? w5 ⟨w.heap.size + 1, 0, none⟩ a0
              have HBB : Hid (Bd y s2 w (w6.drew.setCell ⟨g, q, none⟩ (.int .u8 (bits BinOp.xor IntKind.u8 (data.getD q 0) f3)))) := by
                have t : Tn (fun j => j = g) w6 (w6.drew.setCell ⟨g, q, none⟩ (.int .u8 (bits BinOp.xor IntKind.u8 (data.getD q 0) f3))) := ((Tn.refl (fun j => j = g) w6).drew).set (.inl rfl) _ _
                have := HWC.out
                exact ⟨h6.out.2.1.1.tn t (fun k o e => by have := HLT.out k o; omega), h6.out.2.1.2.trans t (fun k hk e => by omega)⟩
              have ng : w.heap.size + 1 ≠ g := by dsimp only at lv; omega
              have ng2 : g ≠ w.heap.size + 1 := by dsimp only at lv; omega
              clear lg lv jc
              generalize data.getD q 0 = dq at *
              go_region
              go_wp2_with fail
              have q9 := HB2.out (.slice (some ⟨g, 0, none⟩) data.length vc) _ HBB.out (by rw [ec.out]; exact HST.out)
              refine bodyPost_ret (v := .tuple #[.agg #[.int .i64 1, .slice (some ⟨g, 0, none⟩) data.length vc], .int .i64 0]) (by simp [results, Try.results16, go_sem, b0, b1]) rfl ⟨_, by rw [HE1.out], q9.1, q9.2⟩
            · have ec : Hid (corr ⟨f0, 3, f2, f3⟩ data = data) := by show _ = _; unfold corr; rw [if_neg (fun q => h0 q.2)]
              have hd0 : data.length = 0 := by omega
              rw [hd0] at HDO HB2
              clear h0 e
              go_wp2_with (first | (go_at_call 33; refine HDV.mono ?_; rintro e w5 ⟨rfl, rfl⟩) | (go_at_call 37; refine HDO.out.mono ?_; rintro e w6 ⟨v, rfl, h6⟩; obtain ⟨z0, z1, z2, z3⟩ := h6.out.2.2.1.intro; obtain ⟨⟨m0, b0⟩, ⟨m1, b1⟩, p0, p1⟩ := h6.out.2.2.2; obtain ⟨va, vc, rfl⟩ := row_form h6.out.1))
              have q := HB2.out (.slice va 0 vc) w6 h6.out.2.1 (by rw [ec.out]; exact h6.out.1)
              exact bodyPost_ret (v := .tuple #[.agg #[.int .i64 1, .slice va 0 vc], .int .i64 0]) (by simp [results, Try.results16, go_sem, b0, b1]) rfl ⟨_, by rw [HE1.out], q.1, q.2⟩
          · have h3b : (f1 == 3) = false := by simpa using h3
            have ec : Hid (corr ⟨f0, f1, f2, f3⟩ data = data) := by show _ = _; unfold corr; rw [if_neg (fun q => h3 q.1)]
            clear e
            go_wp2_with (first | (go_at_call 33; refine HDV.mono ?_; rintro e w5 ⟨rfl, rfl⟩) | (go_at_call 37; refine HDO.out.mono ?_; rintro e w6 ⟨v, rfl, h6⟩; obtain ⟨z0, z1, z2, z3⟩ := h6.out.2.2.1.intro; obtain ⟨⟨m0, b0⟩, ⟨m1, b1⟩, p0, p1⟩ := h6.out.2.2.2; obtain ⟨va, vc, rfl⟩ := row_form h6.out.1))
            have q := HB2.out (.slice va data.length vc) w6 h6.out.2.1 (by rw [ec.out]; exact h6.out.1)
            exact bodyPost_ret (v := .tuple #[.agg #[.int .i64 1, .slice va data.length vc], .int .i64 0]) (by simp [results, Try.results16, go_sem, b0, b1]) rfl ⟨_, by rw [HE1.out], q.1, q.2⟩
end Go.Proofs.Ytfgljkeohoffiaa
