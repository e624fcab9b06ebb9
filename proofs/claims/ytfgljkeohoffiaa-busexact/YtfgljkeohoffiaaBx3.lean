/- The bus and the reference's bus beside each other. -/
import Derived.Test.YtfgljkeohoffiaaBx2
import Derived.Test.YtfgljkeohoffiaaGy
import Derived.Test.YtfgljkeohoffiaaZo
namespace Go.Proofs.Ytfgljkeohoffiaa
open Go.RowKit Go.Conc
theorem do_n (s : Bs) (addr : Int) (reg : Nat) (l : List Nat) (n : Nat) : (doB s addr reg l n).2.2.n = s.n := by
  unfold doB
  split
  · rfl
  · split
    · rfl
    · split <;> rfl
/-- both buses: sb and sr what they are like, own what the reference's writes; all of the bus lies from w0's end to S, all of the reference's from S on -/
structure BE (w0 wr : World) (S U : Nat) (y : BA) (x : RA) (own : Nat → Prop) (sb sr : Bs) : Prop where
  e : Ext w0 wr
  b : IsBus wr y sb
  r : RB wr x own sr
  rs : RSq S U x sr.n own
  fb : ∀ k, FB y k → w0.heap.size ≤ k ∧ k < S
  s0 : w0.heap.size ≤ S
  su : S ≤ U
  u : U ≤ wr.heap.size
  hb : ∀ k, 0 ≤ ((flt sb.F k).getD noF).idx
  hr : ∀ k, 0 ≤ ((flt sr.F k).getD noF).idx
section
variable {w0 wr w' : World} {S U : Nat} {y : BA} {x : RA} {own : Nat → Prop} {sb sr : Bs}
/-- what the reference's bus reads -/
theorem BE.rbl (h : BE w0 wr S U y x own sb sr) : ∀ k, RBl x own sr k → own k ∨ (S ≤ k ∧ k < U) := fun k o => by
  rcases o with o | ⟨i, off, hi, _, e⟩ | ⟨_, off, e⟩
  · exact .inl o
  · exact .inr (h.rs.2.1 i k off hi e)
  · exact .inr (h.rs.2.2 k off e)
/-- something else has turned -/
theorem BE.tn {o2 : Nat → Prop} (h : BE w0 wr S U y x own sb sr) (t : Tn o2 wr w') (ho : ∀ k, o2 k → U ≤ k ∧ ¬ own k) : BE w0 w' S U y x own sb sr := by
  have hs0 := h.s0
  have hsu := h.su
  refine ⟨t.below h.e (fun k o => by have := (ho k o).1; omega), h.b.tn t (fun k o o2 => by have := (ho k o2).1; have := (h.fb k o).2; omega), h.r.tn t (fun k o o2 => ?_), h.rs, h.fb, h.s0, h.su, Nat.le_trans h.u t.size, h.hb, h.hr⟩
  rcases h.rbl k o with q | q
  · exact (ho k o2).2 q
  · have := (ho k o2).1; omega
theorem BE.ext (h : BE w0 wr S U y x own sb sr) (e : Ext wr w') : BE w0 w' S U y x own sb sr := h.tn (o2 := fun _ => False) (Tn.of_ext e) (fun _ k => k.elim)
/-- the bus has turned -/
theorem BE.bus {s' : Bs} (h : BE w0 wr S U y x own sb sr) (d : Bd y s' wr w') (hF : s'.F = sb.F) : BE w0 w' S U y x own s' sr := by
  refine ⟨d.2.below h.e (fun k o => (h.fb k o).1), d.1, h.r.tn d.2 (fun k o o2 => ?_), h.rs, h.fb, h.s0, h.su, Nat.le_trans h.u d.2.size, fun k => by rw [hF]; exact h.hb k, h.hr⟩
  have := (h.fb k o2).2
  rcases h.rbl k o with q | q
  · have := h.rs.1 k q; omega
  · omega
/-- the reference's bus has turned -/
theorem BE.ref {s' : Bs} {own' : Nat → Prop} (h : BE w0 wr S U y x own sb sr) (d : RB w' x own' s') (t : Tn own wr w') (ho : ∀ k, own' k → own k ∨ wr.heap.size ≤ k) (hn : s'.n = sr.n) (hF : s'.F = sr.F) : BE w0 w' S U y x own' sb s' := by
  have hs0 := h.s0
  have hsu := h.su
  have hu := h.u
  refine ⟨t.below h.e (fun k o => by have := h.rs.1 k o; omega), h.b.tn t (fun k o o2 => by have := h.rs.1 k o2; have := (h.fb k o).2; omega), d, ⟨fun k o => ?_, ?_, h.rs.2.2⟩, h.fb, h.s0, h.su, Nat.le_trans h.u t.size, h.hb, fun k => by rw [hF]; exact h.hr k⟩
  · rcases ho k o with q | q
    · exact h.rs.1 k q
    · omega
  · rw [hn]; exact h.rs.2.1
end
section
variable {w0 wr : World} {S U : Nat} {y : BA} {x : RA} {own : Nat → Prop} {s : Bs}
theorem be_rtick (h : BE w0 wr S U y x own s s) (n : Nat) (hn : n ≤ 1000) : Calls Try.prog 12 #[.pointer (some ⟨x.b, 0, none⟩), .int .i64 n] wr fun e w' => (∃ v, e = .returned v) ∧ ∃ own', Hid (BE w0 w' S U y x own' s (tickB s n)) := by
  refine (rtick_b h.r n hn).mono ?_
  rintro e w' ⟨he, own', d, t, ho⟩
  exact ⟨he, own', h.ref d t ho rfl rfl⟩
theorem be_btick (n : Nat) (h : BE w0 wr S U y x own s (tickB s n)) (hn : n ≤ 1000) : Calls Try.prog 13 #[.pointer (some ⟨y.b, 0, none⟩), .int .i64 n] wr fun e w' => e = .returned (.int .i64 0) ∧ Hid (BE w0 w' S U y x own (tickB s n) (tickB s n)) := by
  refine (tick_b wr h.b n hn).mono ?_
  rintro e w' ⟨he, d⟩
  exact ⟨he, h.bus d rfl⟩
end
theorem A6.tn {o2 : Nat → Prop} {w w' : World} {b o : Nat} {x : Ac} {wa : Option Addr} {wc : Nat} (h : A6 w b o x wa wc) (t : Tn o2 w w') (hb : ¬ o2 b) : A6 w' b o x wa wc :=
  ⟨t.keepc hb h.1, t.keepc hb h.2.1, t.keepc hb h.2.2.1, t.keepc hb h.2.2.2.1, t.keepc hb h.2.2.2.2.1, t.keepc hb h.2.2.2.2.2⟩
theorem be_rtick_at {w0 wr : World} {S U : Nat} {y : BA} {x : RA} {own : Nat → Prop} {s : Bs} (h : BE w0 wr S U y x own s s) (n : Nat) (hn : n ≤ 1000) {VB : Nat} {a : Ac} {wa : Option Addr} {wc : Nat} (hV : A6 wr VB 0 a wa wc) (hv : ¬ own VB) : Calls Try.prog 12 #[.pointer (some ⟨x.b, 0, none⟩), .int .i64 n] wr fun e w' => ∃ v, e = .returned v ∧ (∃ own', Hid (BE w0 w' S U y x own' s (tickB s n))) ∧ A6 w' VB 0 a wa wc := by
  refine (rtick_b h.r n hn).mono ?_
  rintro e w' ⟨⟨v, he⟩, own', d, t, ho⟩
  exact ⟨v, he, ⟨own', h.ref d t ho rfl rfl⟩, hV.tn t hv⟩
/-- an answer's variable -/
def ANs (w : World) (b : Nat) (st : Int) (v : Value) : Prop := w.cell? ⟨b, 0, none⟩ = some (.int .i64 st) ∧ w.cell? ⟨b, 1, none⟩ = some v
theorem ANs.tn {o2 : Nat → Prop} {w w' : World} {b : Nat} {st : Int} {v : Value} (h : ANs w b st v) (t : Tn o2 w w') (hb : ¬ o2 b) : ANs w' b st v := ⟨t.keepc hb h.1, t.keepc hb h.2⟩
theorem ANs.ext {w w' : World} {b : Nat} {st : Int} {v : Value} (h : ANs w b st v) (x : Ext w w') : ANs w' b st v := ⟨x.keepc h.1, x.keepc h.2⟩
theorem ans_new {w : World} {st : Int} {v : Value} {k : Nat} (h : w.heap.size = k) : ANs (w.alloc (.cells #[.int .i64 st, v] 57)) k st v := by
  subst h
  refine ⟨?_, ?_⟩ <;> simp [go_sem]
/-- behind a transaction of the bus: v is what it told -/
structure Dx1 (w0 : World) (B : Nat) (wr : World) (S U : Nat) (y : BA) (x : RA) (own : Nat → Prop) (sb sr : Bs) (v : Value) (l : List Int) : Prop where
  be : BE w0 wr S U y x own sb sr
  ub : U ≤ B
  bs : B ≤ wr.heap.size
  row : wr.ownsRow B Eb 1 v l.length (bv l)
  ow : ∀ k, own k → k < B
/-- the answer's variables beside it -/
structure DxV (w0 : World) (B : Nat) (wr : World) (S U : Nat) (y : BA) (x : RA) (own : Nat → Prop) (sb sr : Bs) (v : Value) (l : List Int) (V1 V2 : Nat) (st : Int) : Prop where
  d : Dx1 w0 B wr S U y x own sb sr v l
  va : ANs wr V1 st v
  vb : AV wr V2
  v1 : B ≤ V1 ∧ V1 < wr.heap.size
  v2 : B ≤ V2 ∧ V2 < wr.heap.size
  ne : V1 ≠ V2
  nv : v.ownBlock ≠ some V2
/-- behind both transactions: v is what the bus told, V1 and V2 hold both answers -/
structure Dx2 (w0 : World) (B : Nat) (wr : World) (S U : Nat) (y : BA) (x : RA) (own : Nat → Prop) (s : Bs) (v u : Value) (l : List Int) (V1 V2 : Nat) (st : Int) : Prop where
  be : BE w0 wr S U y x own s s
  ub : U ≤ B
  bs : B ≤ wr.heap.size
  row : wr.ownsRow B Eb 1 v l.length (bv l)
  va : ANs wr V1 st v
  vb : ANs wr V2 st u
  rd : RdB wr u l
  nv : ∀ k, own k → v.ownBlock ≠ some k
section
variable {w0 wr w' : World} {S U B : Nat} {y : BA} {x : RA} {own : Nat → Prop} {s s' sb sr : Bs} {v u : Value} {l D : List Int} {V1 V2 : Nat} {st : Int}
theorem Dx1.ext (h : Dx1 w0 B wr S U y x own sb sr v l) (e : Ext wr w') : Dx1 w0 B w' S U y x own sb sr v l :=
  ⟨h.be.ext e, h.ub, Nat.le_trans h.bs e.size, row_ext h.row e, h.ow⟩
theorem DxV.ext (h : DxV w0 B wr S U y x own sb sr v l V1 V2 st) (e : Ext wr w') : DxV w0 B w' S U y x own sb sr v l V1 V2 st :=
  ⟨h.d.ext e, h.va.ext e, h.vb.ext e, ⟨h.v1.1, Nat.lt_of_lt_of_le h.v1.2 e.size⟩, ⟨h.v2.1, Nat.lt_of_lt_of_le h.v2.2 e.size⟩, h.ne, h.nv⟩
theorem Dx2.ext (h : Dx2 w0 B wr S U y x own s v u l V1 V2 st) (e : Ext wr w') : Dx2 w0 B w' S U y x own s v u l V1 V2 st :=
  ⟨h.be.ext e, h.ub, Nat.le_trans h.bs e.size, row_ext h.row e, h.va.ext e, h.vb.ext e, h.rd.ext e, h.nv⟩
/-- both variables are made -/
theorem Dx1.dv (h : Dx1 w0 B wr S U y x own sb sr v l) (st : Int) : DxV w0 B ((wr.alloc (.cells #[.int .i64 st, v] 57)).alloc ansC) S U y x own sb sr v l wr.heap.size (wr.heap.size + 1) st := by
  have e1 : Ext wr (wr.alloc (.cells #[.int .i64 st, v] 57)) := (Ext.refl wr).alloc _
  have e2 : Ext (wr.alloc (.cells #[.int .i64 st, v] 57)) ((wr.alloc (.cells #[.int .i64 st, v] 57)).alloc ansC) := (Ext.refl _).alloc _
  have hb := h.bs
  refine ⟨h.ext (e1.trans e2), (ans_new rfl).ext e2, av_new (by simp), ⟨hb, by simp; omega⟩, ⟨by omega, by simp⟩, by omega, fun e => ?_⟩
  have := (h.row.lt _ e).2
  omega
theorem be_bdo {addr : Int} {reg : Nat} {l : List Nat} {n : Nat} (hd : doB s addr reg l n = (st, D, s')) (h : BE w0 wr S U y x own s s) (a : Option Addr) (c : Nat) (hl : l.length ≤ maxLen) (ho : okT addr reg l.length n = true) (hb : BR wr a l) (ha : ∀ k off, 0 < l.length → a = some ⟨k, off, none⟩ → k < w0.heap.size) {VB : Nat} {ac : Ac} {wa : Option Addr} {wc : Nat} (hV : A6 wr VB 0 ac wa wc) (hv : ¬ FB y VB) :
    Calls Try.prog 16 #[.pointer (some ⟨y.b, 0, none⟩), txv addr reg a l.length c n] wr fun e w' => ∃ a' c', e = .returned (.tuple #[ansV st (.slice a' D.length c'), .int .i64 0]) ∧ A6 w' VB 0 ac wa wc ∧ BR w' a l ∧ Hid (Dx1 w0 wr.heap.size w' S U y x own s' s (.slice a' D.length c') D) := by
  have e1 : (doB s addr reg l n).1 = st := by rw [hd]
  have e2 : (doB s addr reg l n).2.1 = D := by rw [hd]
  have e3 : (doB s addr reg l n).2.2 = s' := by rw [hd]
  have q := do_ok wr h.b addr reg a l c n hl ho hb (fun k off h0 e o => by have := ha k off h0 e; have := (h.fb k o).1; omega) h.hb
  rw [e1, e2, e3] at q
  refine q.mono ?_
  rintro e w' ⟨v, rfl, o, d⟩
  obtain ⟨a', c', rfl⟩ := row_form o
  have hF := do_F s addr reg l n
  rw [e3] at hF
  exact ⟨a', c', rfl, hV.tn d.2 hv, hb.tn d.2 (fun k off h0 e o => by have := ha k off h0 e; have := (h.fb k o).1; omega), h.bus d hF, h.u, d.2.size, o, h.r.lt⟩
theorem be_rdo {addr : Int} {reg : Nat} {l : List Nat} {n : Nat} (hd : doB s addr reg l n = (st, D, s')) (h : DxV w0 B wr S U y x own s' s v D V1 V2 st) (a : Option Addr) (c : Nat) (ho : okT addr reg l.length n = true) (hb : BR wr a l) (ha : ∀ k off, 0 < l.length → a = some ⟨k, off, none⟩ → k < w0.heap.size) :
    Calls Try.prog 18 #[.pointer (some ⟨x.b, 0, none⟩), txv addr reg a l.length c n] wr fun e w' => ∃ a' c', e = .returned (ansV st (.slice a' D.length c')) ∧ AV w' V2 ∧ ∃ own', Hid (Dx2 w0 B ((w'.setCell ⟨V2, 0, none⟩ (.int .i64 st)).setCell ⟨V2, 1, none⟩ (.slice a' D.length c')) S U y x own' s' v (.slice a' D.length c') D V1 V2 st) := by
  have e1 : (doB s addr reg l n).1 = st := by rw [hd]
  have e2 : (doB s addr reg l n).2.1 = D := by rw [hd]
  have e3 : (doB s addr reg l n).2.2 = s' := by rw [hd]
  have hn := do_n s addr reg l n
  have hF := do_F s addr reg l n
  rw [e3] at hn hF
  have hs0 := h.d.be.s0
  have hsu := h.d.be.su
  have hub := h.d.ub
  have hv1 := h.v1
  have hv2 := h.v2
  have q := rdo_any h.d.be.r addr reg n a l c ho hb (fun k off h0 e o => by have := ha k off h0 e; have := h.d.be.rs.1 k o; omega) (h.d.be.hr _)
  rw [e1, e2, e3] at q
  refine q.mono ?_
  rintro e w' ⟨u, rfl, o, own', d, t, hown⟩
  obtain ⟨a', c', rfl⟩ := row_form o
  have no : ∀ k, own k → k < B := h.d.ow
  have A := h.vb.tn t (fun k => by have := no _ k; omega)
  have be := h.d.be.ref d t hown hn hF
  have no' : ∀ k, B ≤ k → k < wr.heap.size → ¬ own' k := fun k h1 h2 ok => by
    rcases hown k ok with q | q
    · have := no k q; omega
    · omega
  have tw : Tn (fun k => k = V2) w' ((w'.setCell ⟨V2, 0, none⟩ (.int .i64 st)).setCell ⟨V2, 1, none⟩ (.slice a' D.length c')) := ((Tn.refl (fun k => k = V2) w').set (.inl rfl) _ _).set (.inl rfl) _ _
  obtain ⟨⟨m0, b0⟩, ⟨m1, b1⟩, _, _⟩ := id A
  refine ⟨a', c', rfl, A, own', be.tn tw (fun k e => by subst e; exact ⟨by omega, no' _ hv2.1 hv2.2⟩), h.d.ub, Nat.le_trans h.d.bs (Nat.le_trans t.size tw.size), row_tn (row_tn h.d.row t (fun k hk _ ok => by have := no k ok; omega)) tw (fun k _ e1 e2 => by subst e2; exact h.nv e1), (h.va.tn t (fun k => by have := no _ k; omega)).tn tw h.ne, ⟨?_, ?_⟩, rdb_row (row_tn o tw (fun k hk _ e2 => by subst e2; omega)), fun k ok e => ?_⟩
  · simp [go_sem, b0]
  · simp [go_sem, b1]
  · have := h.d.row.lt k e
    exact no' k this.1 this.2 ok
theorem be_spoil {a : Option Addr} {c : Nat} (h : Dx2 w0 B wr S U y x own s (.slice a D.length c) u D V1 V2 st) (hl : D.length ≤ 1000) :
    Calls Try.prog 20 #[.slice a D.length c] wr fun e w' => (∃ u, e = .returned u) ∧ Hid (BE w0 w' S U y x own s s) := by
  refine (spoil_any wr B a c D h.row hl h.bs).mono ?_
  rintro e w' ⟨he, t⟩
  exact ⟨he, h.be.tn t (fun k e => ⟨by have := (h.row.lt k e).1; have := h.ub; omega, fun o => h.nv k o e⟩)⟩
theorem be_nil (h : BE w0 wr S U y x own s s) : Calls Try.prog 20 #[.slice none 0 0] wr fun e w' => (∃ u, e = .returned u) ∧ Hid (BE w0 w' S U y x own s s) := by
  refine (spoil_any wr 0 none 0 [] (World.ownsRow_nil _ _ _ _) (Nat.zero_le _) (Nat.zero_le _)).mono ?_
  rintro e w' ⟨he, t⟩
  exact ⟨he, h.tn t (fun k e => by cases e)⟩
theorem be_count (h : BE w0 wr S U y x own s s) : (Calls Try.prog 21 #[.pointer (some ⟨y.b, 0, none⟩)] wr fun e w' => e = .returned (.int .i64 s.cnt) ∧ w' = wr) ∧ Calls Try.prog 22 #[.pointer (some ⟨x.b, 0, none⟩)] wr fun e w' => e = .returned (.int .i64 s.cnt) ∧ w' = wr :=
  ⟨count_any wr h.b, rcount_any h.r⟩
end
end Go.Proofs.Ytfgljkeohoffiaa
