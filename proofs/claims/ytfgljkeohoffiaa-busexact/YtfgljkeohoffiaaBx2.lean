/- The reference's bus: New. -/
import Derived.Test.YtfgljkeohoffiaaBx1
import Derived.Test.YtfgljkeohoffiaaYf
namespace Go.Proofs.Ytfgljkeohoffiaa
open Go.RowKit Go.Conc
abbrev Erd : TypeId := 83
def rdz : Value := .agg #[.int .i64 0, .int .i64 0, .slice none 0 0, .bool false, .int .i64 0, .int .i64 0, .int .i64 0, .int .i64 0, .slice none 0 0]
theorem Try.infoTrd : (Try.prog.info? Erd).map (fun i => (i.zero, i.size, i.bytes)) = some (some rdz, 9, 104) := by kernel_rfl
def rdc (m : Md) (a : Option Addr) (c : Nat) : List Value := [.int .i64 m.addr, .int .i64 m.id, .slice a m.list.length c, .bool false, .int .i64 1, .int .i64 0, .int .i64 0, .int .i64 0, .slice none 0 0]
/-- the cells of devices of models whose lists lie at A -/
def rds (M : List Md) (A : Nat → Option Addr) (LC : Nat → Nat) : Nat → List Value
  | 0 => []
  | k + 1 => rds M A LC k ++ rdc (gm M k) (A k) (LC k)
theorem rds_len (M : List Md) (A : Nat → Option Addr) (LC : Nat → Nat) : ∀ k, (rds M A LC k).length = k * 9
  | 0 => rfl
  | k + 1 => by
    show (rds M A LC k ++ rdc (gm M k) (A k) (LC k)).length = _
    rw [List.length_append, rds_len M A LC k]
    show k * 9 + 9 = _
    omega
theorem rds_at (M : List Md) (A : Nat → Option Addr) (LC : Nat → Nat) (i j : Nat) (hj : j < 9) : ∀ k, i < k → (rds M A LC k)[i * 9 + j]? = (rdc (gm M i) (A i) (LC i))[j]?
  | 0, h => by omega
  | k + 1, h => by
    show (rds M A LC k ++ rdc (gm M k) (A k) (LC k))[i * 9 + j]? = _
    have hl := rds_len M A LC k
    by_cases e : i = k
    · subst e
      rw [List.getElem?_append_right (by omega), show i * 9 + j - (rds M A LC i).length = j by omega]
    · rw [List.getElem?_append_left (by omega)]
      exact rds_at M A LC i j hj k (by omega)
theorem rds_congr (M : List Md) {A A' : Nat → Option Addr} {LC LC' : Nat → Nat} : ∀ k, (∀ i, i < k → A' i = A i ∧ LC' i = LC i) → rds M A' LC' k = rds M A LC k
  | 0, _ => rfl
  | k + 1, h => by
    show rds M A' LC' k ++ rdc (gm M k) (A' k) (LC' k) = rds M A LC k ++ rdc (gm M k) (A k) (LC k)
    rw [rds_congr M k (fun i hi => h i (by omega)), (h k (by omega)).1, (h k (by omega)).2]
theorem rdc_one (m : Md) (a : Option Addr) (c : Nat) : ∀ u ∈ rdc m a c, u.oneCell' = true := by
  intro u hu
  simp only [rdc, List.mem_cons, List.mem_nil_iff, or_false] at hu
  rcases hu with rfl | rfl | rfl | rfl | rfl | rfl | rfl | rfl | rfl <;> rfl
theorem newrd (w : World) (m : Md) (a : Option Addr) (c : Nat) (T : TypeId) : ∀ j u, (rdc m a c)[j]? = some u → (w.alloc (.cells #[.int .i64 m.addr, .int .i64 m.id, .slice a m.list.length c, .bool false, .int .i64 1, .int .i64 0, .int .i64 0, .int .i64 0, .slice none 0 0] T)).cell? ((⟨w.heap.size, 0, none⟩ : Addr).add j) = some u := by
  intro j u hu
  have hj : j < 9 := by have := (List.getElem?_eq_some_iff.1 hu).1; simpa [rdc] using this
  rw [add_plain]
  match j, hj with
  | 0, _ => cases hu; simp [go_sem]
  | 1, _ => cases hu; simp [go_sem]
  | 2, _ => cases hu; simp [go_sem]
  | 3, _ => cases hu; simp [go_sem]
  | 4, _ => cases hu; simp [go_sem]
  | 5, _ => cases hu; simp [go_sem]
  | 6, _ => cases hu; simp [go_sem]
  | 7, _ => cases hu; simp [go_sem]
  | 8, _ => cases hu; simp [go_sem]
  | j + 9, h => omega
/-- k devices are made: the bus at b, its devices v -/
structure NB (w0 wr : World) (b : Nat) (fa : Option Addr) (fc : Nat) (F : List Flt) (M : List Md) (k : Nat) (v : Value) (A : Nat → Option Addr) (LC : Nat → Nat) : Prop where
  x : Ext w0 wr
  b0 : w0.heap.size ≤ b
  c0 : wr.cell? ⟨b, 0, none⟩ = some v
  c1 : wr.cell? ⟨b, 1, none⟩ = some (.slice fa F.length fc)
  c2 : wr.cell? ⟨b, 2, none⟩ = some (.int .i64 0)
  f : ∀ j, wr.frozen? ⟨b, j, none⟩ = false
  row : wr.ownsRow (b + 1) Erd 9 v k (rds M A LC k)
  li : Lists wr (b + 1) M k v A LC
  fs : wr.ownsRow w0.heap.size Erf 4 (.slice fa F.length fc) F.length (ff4 F)
  fb : ∀ g, (Value.slice fa F.length fc).ownBlock = some g → g < b
theorem NB.ext {w0 wr w' : World} {b : Nat} {fa : Option Addr} {fc : Nat} {F : List Flt} {M : List Md} {k : Nat} {v : Value} {A : Nat → Option Addr} {LC : Nat → Nat} (h : NB w0 wr b fa fc F M k v A LC) (x : Ext wr w') : NB w0 w' b fa fc F M k v A LC :=
  ⟨h.x.trans x, h.b0, x.keepc h.c0, x.keepc h.c1, x.keepc h.c2, fun j => frozen_tn (own := fun _ => False) (Tn.of_ext x) (World.block_lt_of_cell? wr ⟨b, 0, none⟩ h.c0) (fun k => k) j (h.f j), row_ext h.row x, h.li.ext x, row_ext h.fs x, h.fb⟩
theorem NB.more {w0 w1 w4 w9 : World} {b : Nat} {fa : Option Addr} {fc : Nat} {F : List Flt} {M : List Md} {k : Nat} {v v' : Value} {A : Nat → Option Addr} {LC : Nat → Nat} {o : Obj} {r : Option Addr} {rc : Nat} (h1 : NB w0 w1 b fa fc F M k v A LC) (x : Ext w1 w4)
    (hr : w4.ownsRow w1.heap.size Erw 4 (.slice r (gm M k).list.length rc) (gm M k).list.length (fl4 (gm M k).list)) (hown : w9.ownsRow (b + 1) Erd 9 v' (k + 1) (rds M A LC k ++ rdc (gm M k) r rc)) (hg : (w4.alloc o).grownBy w9 v.ownBlock) (hv : ∀ g, v'.ownBlock = some g → v.ownBlock = some g ∨ w4.heap.size + 1 = g) :
    NB w0 (w9.setCell ⟨b, 0, none⟩ v') b fa fc F M (k + 1) v' (upd A k r) (upd LC k rc) := by
  have x4 : Ext w4 (w4.alloc o) := (Ext.refl w4).alloc o
  have h := h1.ext x
  have hbl : b < w1.heap.size := World.block_lt_of_cell? w1 ⟨b, 0, none⟩ h1.c0
  have hbl4 : b < w4.heap.size := World.block_lt_of_cell? w4 ⟨b, 0, none⟩ h.c0
  have t : Tn (fun j => v.ownBlock = some j) w4 w9 := (Tn.of_ext x4).grown hg (fun j e => .inl e)
  have hvb : v.ownBlock ≠ some b := fun e => by have := (h.row.lt b e).1; omega
  have hvb' : v'.ownBlock ≠ some b := fun e => by rcases hv b e with q | q; exact hvb q; omega
  have L := h.li.more (fun g e => (h1.row.lt g e).2) (by omega) hr hg hv
  have t2 : Tn (fun j => j = b) w9 (w9.setCell ⟨b, 0, none⟩ v') := (Tn.refl (fun j => j = b) w9).set (.inl rfl) _ _
  have q0 := t.keepc hvb h.c0
  have q1 := t.keepc hvb h.c1
  have q2 := t.keepc hvb h.c2
  have hb9 : b < w9.heap.size := World.block_lt_of_cell? w9 ⟨b, 0, none⟩ q0
  have qf : ∀ j, w9.frozen? ⟨b, j, none⟩ = false := fun j => frozen_tn t hbl4 hvb j (h.f j)
  refine ⟨(t.below h.x (fun i e => by have := (h.row.lt i e).1; have := h.b0; omega)).new h.b0 0 v', h.b0, ?_, ?_, ?_, fun j => ?_, ?_, fun i hi => ⟨row_tn (L i hi).1 t2 (fun g hg _ e => by omega), (L i hi).2⟩, ?_, h.fb⟩
  · simp [go_sem, q0]
  · simp [go_sem, q1]
  · simp [go_sem, q2]
  · rw [World.frozen?_setCell]; exact qf j
  · refine row_tn ?_ t2 (fun g hg _ e => by omega)
    show w9.ownsRow (b + 1) Erd 9 v' (k + 1) (rds M (upd A k r) (upd LC k rc) k ++ rdc (gm M k) (upd A k r k) (upd LC k rc k))
    rw [upd_at, upd_at, rds_congr M (A := A) (LC := LC) k (fun i hi => ⟨upd_ne _ _ (by omega), upd_ne _ _ (by omega)⟩)]
    exact hown
  · refine row_tn (row_tn h.fs t (fun g _ e1 e2 => ?_)) t2 (fun g _ e1 e2 => by have := h.fb g e1; omega)
    have := h.fb g e1
    have := (h.row.lt g e2).1
    omega
theorem dev_kept {w4 w9 : World} {v u0 : Value} {o : Obj} {b : Nat} (hg : (w4.alloc o).grownBy w9 v.ownBlock) (h1 : v.ownBlock ≠ some b) (c0 : w4.cell? ⟨b, 0, none⟩ = some u0) (f0 : w4.frozen? ⟨b, 0, none⟩ = false) :
    w9.cell? ⟨b, 0, none⟩ = some u0 ∧ w9.frozen? ⟨b, 0, none⟩ = false := by
  have t : Tn (fun j => v.ownBlock = some j) w4 w9 := (Tn.of_ext ((Ext.refl w4).alloc o)).grown hg (fun j e => .inl e)
  exact ⟨t.keepc h1 c0, t.keepf h1 c0 f0⟩
theorem NB.vb {w0 wr : World} {b : Nat} {fa : Option Addr} {fc : Nat} {F : List Flt} {M : List Md} {k : Nat} {v : Value} {A : Nat → Option Addr} {LC : Nat → Nat} (h : NB w0 wr b fa fc F M k v A LC) : v.ownBlock ≠ some b := fun e => by have := (h.row.lt b e).1; omega
theorem okUp_dev (M : List Md) : ∀ {k i : Nat}, okUp M k = true → i < k → okM (gm M i) = true
  | 0, i, _, hi => by omega
  | k + 1, i, h, hi => by
    unfold okUp at h
    simp only [Bool.and_eq_true] at h
    by_cases e : i = k
    · subst e; exact h.2.1
    · exact okUp_dev M h.1 (by omega)
/-- where the devices' row begins -/
def rowG (b : Nat) : Option Addr → Nat
  | some ⟨g, _, _⟩ => g
  | none => b + 1
/-- where what the reference's bus writes and reads lies -/
def RSq (S U : Nat) (x : RA) (n : Nat) (own : Nat → Prop) : Prop := (∀ k, own k → S ≤ k) ∧ (∀ i k off, i < n → x.A i = some ⟨k, off, none⟩ → S ≤ k ∧ k < U) ∧ ∀ k off, x.fa = some ⟨k, off, none⟩ → S ≤ k ∧ k < U
/-- The reference's bus of what has been made. -/
theorem NB.rb {w0 wr : World} {b : Nat} {fa : Option Addr} {fc : Nat} {F : List Flt} {M : List Md} {r : Option Addr} {rc : Nat} {A : Nat → Option Addr} {LC : Nat → Nat} (h : NB w0 wr b fa fc F M M.length (.slice r M.length rc) A LC) (hok : (okMs M && okFs F) = true) :
    ∃ x own, x.b = b ∧ RB wr x own (newB M F) ∧ RSq w0.heap.size wr.heap.size x M.length own := by
  have hk : (M.length ≤ 8 ∧ okUp M M.length = true) ∧ F.length ≤ 4096 := by
    unfold okMs okFs at hok
    simp only [Bool.and_eq_true, decide_eq_true_eq] at hok
    exact ⟨hok.1, hok.2.1⟩
  have hm : ∀ i, i < M.length → (gm M i).list.length ≤ 4096 ∧ 0 ≤ (gm M i).id ∧ (gm M i).id ≤ 255 := fun i hi => by
    have e := okUp_dev M hk.1.2 hi
    unfold okM at e
    simp only [Bool.and_eq_true, decide_eq_true_eq, inn_iff] at e
    exact ⟨e.2.1, e.1.2⟩
  have hb0 := h.b0
  have hform : 0 < M.length → ∃ g, r = some ⟨g, 0, none⟩ ∧ b + 1 ≤ g ∧ g < wr.heap.size ∧ ∀ j, wr.frozen? ⟨g, j, none⟩ = false := fun h0 => by
    have hl := h.row.1
    rcases h.row.2 with ⟨_, e2⟩ | ⟨g, cap', cur, e1, hb, hg, _⟩
    · rw [rds_len] at hl; omega
    · cases e1
      refine ⟨g, rfl, hb, (Array.getElem?_eq_some_iff.1 hg).1, fun j => ?_⟩
      unfold World.frozen?
      rw [hg]
      simp
  have hlist : ∀ i k off, i < M.length → 0 < (gm M i).list.length → A i = some ⟨k, off, none⟩ → (Value.slice (A i) (gm M i).list.length (LC i)).ownBlock = some k := fun i k off hi h0 e => by rw [e]; rfl
  have hfl : ∀ k off, 0 < F.length → fa = some ⟨k, off, none⟩ → (Value.slice fa F.length fc).ownBlock = some k := fun k off h0 e => by rw [e]; rfl
  have hdev : ∀ i, i < M.length → RD wr (rowG b r) (i * 9) (A i) (LC i) none 0 (dvs M i) := fun i hi => by
    obtain ⟨g, er, hg, hgl, hgf⟩ := hform (by omega)
    have e : rowG b r = g := by rw [er]; rfl
    rw [e]
    have c : ∀ j v, j < 9 → (rdc (gm M i) (A i) (LC i))[j]? = some v → wr.cell? ⟨g, i * 9 + j, none⟩ = some v := fun j v hj hv => by
      have q := h.row
      rw [er] at q
      rw [q.cellAt _ (by have := rds_len M A LC M.length; omega), rds_at M A LC i j hj _ hi]
      exact hv
    have hL := h.li i hi
    refine ⟨c 0 _ (by omega) rfl, c 1 _ (by omega) rfl, c 2 _ (by omega) rfl, c 3 _ (by omega) rfl, c 4 _ (by omega) rfl, c 5 _ (by omega) rfl, c 6 _ (by omega) rfl, c 7 _ (by omega) rfl, c 8 _ (by omega) rfl, hgf, lr_row hL.1, fun k off h0 ea => ⟨fun ek => ?_, fun ⟨_, q⟩ => (by cases q)⟩, qo_nil wr, fun k ⟨_, q⟩ => (by cases q), fun h0 => h0, (hm i hi).1, ⟨Nat.le_refl _, by show 1 ≤ 256; omega⟩, Nat.zero_le _, (hm i hi).2⟩
    exact hL.2 k (hlist i k off hi h0 ea) (by rw [er, ek]; rfl)
  refine ⟨⟨b, rowG b r, rc, r, fa, fc, A, LC, F⟩, fun k => k = b ∨ (0 < M.length ∧ k = rowG b r), rfl, ?_, ?_⟩
  · refine ⟨h.c0, h.c1, h.c2, h.f, fun h0 => ?_, ?_, ⟨fun _ => none, fun _ => 0, hdev, fun i k _ ⟨_, q⟩ => (by cases q), fun i j k _ _ _ ⟨_, q⟩ => (by cases q)⟩, fun i k off hi h0 ea o => ?_, fr_row h.fs, fun k off h0 ea o => ?_, .inl rfl, fun h0 => .inr ⟨h0, rfl⟩, fun k o => ?_, hk.1.1, ⟨hk.2, rfl⟩, fun i hi => Nat.zero_le _⟩
    · obtain ⟨g, er, _⟩ := hform h0
      show r = some ⟨rowG b r, 0, none⟩
      rw [er]; rfl
    · show b ≠ rowG b r
      by_cases h0 : 0 < M.length
      · obtain ⟨g, er, hg, _⟩ := hform h0
        rw [er]
        show b ≠ g
        omega
      · have hl : M.length = 0 := by omega
        rcases h.row.2 with ⟨e1, _⟩ | ⟨g, cap', cur, e1, hb, _⟩
        · have er : r = none := by injection e1
          rw [er]; show b ≠ b + 1; omega
        · have er : r = some ⟨g, 0, none⟩ := by injection e1
          rw [er]; show b ≠ g; omega
    · have hi' : i < M.length := hi
      have hL := h.li i hi'
      have e := hlist i k off hi' h0 ea
      rcases o with o | ⟨_, o⟩
      · have := (hL.1.lt k e).1
        omega
      · obtain ⟨g, er, _⟩ := hform (by omega)
        refine hL.2 k e ?_
        rw [o, er]; rfl
    · have e := hfl k off h0 ea
      have hb := h.fb k e
      rcases o with o | ⟨h1, o⟩
      · omega
      · obtain ⟨g, er, hg, _⟩ := hform h1
        have : k = g := by rw [o, er]; rfl
        omega
    · have hbl : b < wr.heap.size := World.block_lt_of_cell? wr ⟨b, 0, none⟩ h.c0
      rcases o with o | ⟨h1, o⟩
      · omega
      · obtain ⟨g, er, hg, hgl, _⟩ := hform h1
        have : k = g := by rw [o, er]; rfl
        omega
  · refine ⟨fun k o => ?_, fun i k off hi ea => ?_, fun k off ea => ?_⟩
    · rcases o with o | ⟨h1, o⟩
      · omega
      · obtain ⟨g, er, hg, _⟩ := hform h1
        have : k = g := by rw [o, er]; rfl
        omega
    · have q := (h.li i hi).1.lt k (by rw [show A i = some ⟨k, off, none⟩ from ea]; rfl)
      omega
    · exact h.fs.lt k (by rw [show fa = some ⟨k, off, none⟩ from ea]; rfl)
set_option maxRecDepth 20000 in
set_option maxHeartbeats 8000000 in
theorem rnew_any (w : World) (a : Option Addr) (M : List Md) (c : Nat) (a2 : Option Addr) (F : List Flt) (c2 : Nat) (h : MRs w a M) (hF : FRs w a2 F) (hok : (okMs M && okFs F) = true) :
    Calls Try.prog 10 #[.slice a M.length c, .slice a2 F.length c2] w fun e w' => ∃ x, e = .returned (.pointer (some ⟨x.b, 0, none⟩)) ∧ ∃ own, Hid (RB w' x own (newB M F) ∧ Ext w w' ∧ RSq w.heap.size w'.heap.size x M.length own) := by
  have hk : (M.length ≤ 8 ∧ okUp M M.length = true) ∧ F.length ≤ 4096 := by
    unfold okMs okFs at hok
    simp only [Bool.and_eq_true, decide_eq_true_eq] at hok
    exact ⟨hok.1, hok.2.1⟩
  obtain ⟨i0, hi, hz0, hz1, hz2⟩ := info_parts Try.infoTrd
  have h8 := hk.1.1
  have HM : Hid (∀ i, i < M.length → (gm M i).list.length ≤ 100000) := fun i hi => by
    have e := okUp_dev M hk.1.2 hi
    unfold okM at e
    simp only [Bool.and_eq_true, decide_eq_true_eq] at e
    have := e.2.1
    omega
  have HL : Hid (∀ wr, Ext w wr → MRs wr a M) := fun wr x => h.ext x
  have HC := copyfaults_any w a2 F c2 hF (by omega)
  have HOK : Hid ((okMs M && okFs F) = true) := hok
  clear h hF hok hk
  go_enter Try.func10, Try.ntmps10
  go_wp2_with (go_at_call 29; refine HC.mono ?_; rintro e w1 ⟨fa, fc, rfl, o1, x1⟩)
  have H0 : Hid (NB w (w1.alloc (.cells #[.slice none 0 0, .slice fa F.length fc, .int .i64 0] 81)) w1.heap.size fa fc F M 0 (.slice none 0 0) (fun _ => none) (fun _ => 0)) := by
    have x2 : Ext w1 (w1.alloc (.cells #[.slice none 0 0, .slice fa F.length fc, .int .i64 0] 81)) := (Ext.refl w1).alloc _
    refine ⟨x1.trans x2, x1.size, by simp [go_sem], by simp [go_sem], by simp [go_sem], fun j => ?_, World.ownsRow_nil _ _ _ _, fun i hi => absurd hi (Nat.not_lt_zero _), row_ext o1 x2, fun g e => (o1.lt g e).2⟩
    unfold World.frozen?; rw [heap_alloc_new]; simp
  clear o1 x1 HC
  generalize hB : w1.heap.size = B at *
  go_loopw [6] (fun i wr => ∃ (k : Nat) (r : Option Addr) (cc : Nat) (A : Nat → Option Addr) (LC : Nat → Nat), k ≤ M.length ∧ i = .int .i64 k ∧ Hid (NB w wr B fa fc F M k (.slice r k cc) A LC)) (fun i _ => M.length - (intOf i).toNat)
  case atStart => exact ⟨0, none, 0, _, _, Nat.zero_le _, rfl, H0⟩
  case round =>
    obtain ⟨k, r, cc, A, LC, hk, rfl, hR⟩ := hrel
    clear H0
    by_cases hlt : k < M.length
    · have hlti : (k : Int) < (M.length : Int) := by omega
      obtain ⟨b1, off, la, lc, ha, ⟨j0, j1, j2⟩, hlr, _⟩ := HL.out wr hR.out.x k hlt
      subst ha
      have HP : Hid (∀ n, Calls Try.prog 23 #[mv (gm M k) la lc] (wr.drewN n) fun e w' => ∃ r1 rc1, e = .returned (mv (gm M k) r1 rc1) ∧ Hid (w'.ownsRow (wr.drewN n).heap.size Erw 4 (.slice r1 (gm M k).list.length rc1) (gm M k).list.length (fl4 (gm M k).list) ∧ Ext (wr.drewN n) w' ∧ NB w w' B fa fc F M k (.slice r k cc) A LC ∧ NB w (wr.drewN n) B fa fc F M k (.slice r k cc) A LC) ∧ w'.cell? ⟨B, 0, none⟩ = some (.slice r k cc) ∧ w'.frozen? ⟨B, 0, none⟩ = false) := fun n => by
        have xn : Ext wr (wr.drewN n) := drewN_ext n
        refine (copymodel_any _ (gm M k) la lc (hlr.ext xn) (HM.out k hlt)).mono ?_
        rintro e w' ⟨r1, rc1, he, h1, h2⟩
        have q := hR.out.ext (xn.trans h2)
        exact ⟨r1, rc1, he, ⟨h1, h2, q, hR.out.ext xn⟩, q.c0, q.f 0⟩
      have HT : Hid (∀ w1 w4 w9 (v' : Value) (o : Obj) r1 rc1, NB w w1 B fa fc F M k (.slice r k cc) A LC → Ext w1 w4 → w4.ownsRow w1.heap.size Erw 4 (.slice r1 (gm M k).list.length rc1) (gm M k).list.length (fl4 (gm M k).list) → w9.ownsRow (B + 1) Erd 9 v' (k + 1) (rds M A LC k ++ rdc (gm M k) r1 rc1) → (w4.alloc o).grownBy w9 (Value.slice r k cc).ownBlock → (∀ g, v'.ownBlock = some g → (Value.slice r k cc).ownBlock = some g ∨ w4.heap.size + 1 = g) → NB w (w9.setCell ⟨B, 0, none⟩ v') B fa fc F M (k + 1) v' (upd A k r1) (upd LC k rc1)) := fun w1 w4 w9 v' o r1 rc1 n1 x hr hown hg hv => n1.more x hr hown hg hv
      have c0 := hR.out.c0
      have f0 := hR.out.f 0
      have HVB : Hid ((Value.slice r k cc).ownBlock ≠ some B) := hR.out.vb
      clear hlr hR
      generalize hgm : gm M k = m at *
      obtain ⟨addr, id, list⟩ := m
      simp only at j0 j1 j2
      have h63 : k + 1 ≤ maxLen := by unfold maxLen; omega
      have hby : (k + 1) * 104 ≤ 140737488355328 := by omega
      clear hgm
      go_upto_region 5 with fail
      go_region_law (first | (refine step_call rfl (f := 23) (args := #[mv ⟨addr, id, list⟩ la lc]) (by simp [go_sem]) ((HP.out 1).mono ?_); rintro e w4 ⟨r1, rc1, rfl, hN, s0, sf⟩; refine ⟨_, rfl, ?_⟩; have s4 := (hN.out.2.2.1.ext ((Ext.refl w4).alloc (.cells #[.int .i64 addr, .int .i64 id, .slice r1 list.length rc1, .bool false, .int .i64 1, .int .i64 0, .int .i64 0, .int .i64 0, .slice none 0 0] Erd))).c0; have s5 := (hN.out.2.2.1.ext ((Ext.refl w4).alloc (.cells #[.int .i64 addr, .int .i64 id, .slice r1 list.length rc1, .bool false, .int .i64 1, .int .i64 0, .int .i64 0, .int .i64 0, .slice none 0 0] Erd))).f 0) | (refine step_append_lies _ rfl (.tmp 21) (.tmp 28) 79 rfl (B + 1) Erd i0 rdz 9 104 Try.underlying79 hi hz0 hz1 hz2 rfl (by decide) _ k (rds M A LC k) rfl (by exact row_ext hN.out.2.2.1.row ((Ext.refl w4).alloc _)) ⟨w4.heap.size, 0, none⟩ 1 1 (rdc ⟨addr, id, list⟩ r1 rc1) rfl rfl (by exact newrd w4 ⟨addr, id, list⟩ r1 rc1 _) (rdc_one _ _ _) (by decide) h63 hby (by have q : B < w4.heap.size := World.block_lt_of_cell? w4 ⟨B, 0, none⟩ s0; simp; omega) (w4.heap.size + 1) (by simp) ?_; intro g' cap' w9 hown' hg' hgb hgl; obtain ⟨q0, qf⟩ := dev_kept hg' HVB.out s0 sf; have R9 : Hid (NB w (w9.setCell ⟨B, 0, none⟩ (.slice (some ⟨g', 0, none⟩) (k + 1) cap')) B fa fc F M (k + 1) (.slice (some ⟨g', 0, none⟩) (k + 1) cap') (upd A k r1) (upd LC k rc1)) := HT.out _ w4 w9 _ _ r1 rc1 hN.out.2.2.2 hN.out.2.1 hN.out.1 hown' hg' (fun g e => by cases e; rcases hgb with q | q; exact .inl q; exact .inr q.symm); clear hown' hg' hgb hgl hN))
      all_goals
        go_wp2_with fail
        go_roundw
        case measure => simp [intOf]; omega
        case rel => exact ⟨k + 1, _, _, _, _, by omega, by simp, R9⟩
    · have hlti : ¬ (k : Int) < (M.length : Int) := by omega
      have hkl : k = M.length := by omega
      subst hkl
      obtain ⟨x, own, e1, e2, e3⟩ := hR.out.rb HOK.out
      have HE : Hid (RB wr x own (newB M F) ∧ Ext w wr ∧ RSq w.heap.size wr.heap.size x M.length own) := ⟨e2, hR.out.x, e3⟩
      subst e1
      clear e2 e3 hR
      go_wp2_with fail
      go_ret
      exact ⟨x, rfl, own, HE⟩
end Go.Proofs.Ytfgljkeohoffiaa
