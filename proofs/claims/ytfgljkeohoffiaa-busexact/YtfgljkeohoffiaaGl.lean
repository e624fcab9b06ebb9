/- bus: a model; Clone of samples; newDevice; device. -/
import Derived.Test.YtfgljkeohoffiaaGk
namespace Go.Proofs.Ytfgljkeohoffiaa
open Go.RowKit Go.Conc
def fld (r : Raw) : Nat → Value
  | 0 => .int .i64 r.x
  | 1 => .int .i64 r.y
  | 2 => .int .i64 r.z
  | _ => .int .i64 r.t
theorem C4.fld {w : World} {b o : Nat} {r : Raw} (h : C4 w b o r) {k : Nat} (hk : k < 4) : w.cell? ⟨b, o + k, none⟩ = some (fld r k) := by
  obtain ⟨h0, h1, h2, h3⟩ := h
  match k, hk with
  | 0, _ => exact h0
  | 1, _ => exact h1
  | 2, _ => exact h2
  | 3, _ => exact h3
  | k + 4, h => omega
theorem c4_of {w : World} {b o : Nat} {r : Raw} (h : ∀ k, k < 4 → w.cell? ⟨b, o + k, none⟩ = some (fld r k)) : C4 w b o r := ⟨h 0 (by omega), h 1 (by omega), h 2 (by omega), h 3 (by omega)⟩
/-- the cells of samples -/
def fl4 : List Raw → List Value
  | [] => []
  | r :: l => .int .i64 r.x :: .int .i64 r.y :: .int .i64 r.z :: .int .i64 r.t :: fl4 l
theorem fl4_len : ∀ l : List Raw, (fl4 l).length = l.length * 4
  | [] => rfl
  | r :: l => by simp [fl4, fl4_len l]; omega
theorem fl4_app : ∀ l m : List Raw, fl4 (l ++ m) = fl4 l ++ fl4 m
  | [], m => rfl
  | r :: l, m => by simp [fl4, fl4_app l m]
theorem fl4_at : ∀ (l : List Raw) (i k : Nat), i < l.length → k < 4 → (fl4 l)[i * 4 + k]? = some (fld (smp l i) k)
  | [], i, k, h, _ => by simp at h
  | r :: l, 0, k, _, hk => by
    match k, hk with
    | 0, _ => rfl
    | 1, _ => rfl
    | 2, _ => rfl
    | 3, _ => rfl
    | k + 4, h => omega
  | r :: l, i + 1, k, h, hk => by
    have := fl4_at l i k (by simpa using h) hk
    rw [show (i + 1) * 4 + k = (i * 4 + k) + 1 + 1 + 1 + 1 by omega]
    simpa [fl4, smp] using this
theorem fl4_one (l : List Raw) : ∀ u ∈ fl4 l, u.oneCell' = true := by
  induction l with
  | nil => intro u hu; simp [fl4] at hu
  | cons t l ih =>
    intro u hu
    simp only [fl4, List.mem_cons] at hu
    rcases hu with rfl | rfl | rfl | rfl | hu
    · rfl
    · rfl
    · rfl
    · rfl
    · exact ih u hu
theorem add_plain (b o n : Nat) : (⟨b, o, none⟩ : Addr).add n = ⟨b, o + n, none⟩ := by
  unfold Addr.add
  split
  · subst_vars; rfl
  · rfl
theorem LR.news {w : World} {b off : Nat} {l : List Raw} (h : LR w (some ⟨b, off, none⟩) l) : ∀ j u, (fl4 l)[j]? = some u → w.cell? ((⟨b, off, none⟩ : Addr).add j) = some u := by
  intro j u hu
  have hj : j < l.length * 4 := by have := (List.getElem?_eq_some_iff.1 hu).1; rw [fl4_len] at this; exact this
  obtain ⟨b', off', e, c⟩ := h (j / 4) (by omega)
  cases e
  have h1 := c.fld (k := j % 4) (Nat.mod_lt _ (by omega))
  have h2 := fl4_at l (j / 4) (j % 4) (by omega) (Nat.mod_lt _ (by omega))
  rw [show j / 4 * 4 + j % 4 = j by omega, hu] at h2
  rw [add_plain, show off + j = off + j / 4 * 4 + j % 4 by omega, h1]; exact h2.symm
/-- samples that a row holds -/
theorem lr_row {w : World} {B n cap : Nat} {a : Option Addr} {l : List Raw} (h : w.ownsRow B Erw 4 (.slice a n cap) n (fl4 l)) : LR w a l := by
  intro i hi
  have hl := h.1
  rw [fl4_len] at hl
  rcases h.2 with ⟨_, e2⟩ | ⟨g, cap', cur, e1, _⟩
  · omega
  · cases e1
    refine ⟨g, 0, rfl, c4_of fun k hk => ?_⟩
    rw [Nat.zero_add, h.cellAt _ (by omega)]
    exact fl4_at l i k hi hk
set_option maxRecDepth 100000 in
theorem eqlr_some (ad : Addr) (n cap : Nat) (w : World) : (binOp .eql 33 (.slice (some ad) n cap) (.slice none 0 0)).run Try.prog w = .ok (.bool false) w := rfl
set_option maxRecDepth 100000 in
theorem eqlr_none (n cap : Nat) (w : World) : (binOp .eql 33 (.slice none n cap) (.slice none 0 0)).run Try.prog w = .ok (.bool true) w := rfl
theorem Try.infoTq : (Try.prog.info? Erw).map (fun i => (i.zero, i.size, i.bytes)) = some (some (.agg #[.int .i64 0, .int .i64 0, .int .i64 0, .int .i64 0]), 4, 32) := by kernel_rfl
set_option maxRecDepth 20000 in
set_option maxHeartbeats 8000000 in
theorem clone_raw (w : World) (a : Option Addr) (l : List Raw) (c : Nat) (h : LR w a l) (hm : l.length ≤ 4096) :
    Calls Try.prog 57 #[.slice a l.length c] w fun e w' => ∃ r rc, e = .returned (.slice r l.length rc) ∧ (LR w' r l ∧ ∀ k off, r = some ⟨k, off, none⟩ → w.heap.size ≤ k) ∧ Ext w w' := by
  obtain ⟨i0, hi, hz0, hz1, hz2⟩ := info_parts Try.infoTq
  by_cases h0 : 0 < l.length
  · obtain ⟨b, off, rfl, _⟩ := h 0 h0
    have HX : Hid (Ext w (w.alloc (.cells #[] Erw))) := (Ext.refl w).alloc _
    have hown : (w.alloc (.cells #[] Erw)).ownsRow w.heap.size Erw 4 (.slice (some ⟨w.heap.size, 0, none⟩) 0 0) 0 [] := World.ownsRow_lit w #[] 0 (Nat.le_refl _) (by decide) rfl
    have hnews : ∀ j u, (fl4 l)[j]? = some u → (w.alloc (.cells #[] Erw)).cell? ((⟨b, off, none⟩ : Addr).add j) = some u := (h.ext HX.out).news
    have hone := fl4_one l
    have hfl := fl4_len l
    have heq := eqlr_some ⟨b, off, none⟩ l.length c
    clear h
    go_enter Try.func57, Try.ntmps57
    go_wp2_with (at_builtin; refine wpList_append_lies _ rfl (.tmp 5) (.tmp 6) 33 rfl w.heap.size Erw i0 (.agg #[.int .i64 0, .int .i64 0, .int .i64 0, .int .i64 0]) 4 32 Try.underlying33 hi hz0 hz1 hz2 rfl (by decide) _ 0 [] rfl (by exact hown) ⟨b, off, none⟩ l.length c (fl4 l) rfl hfl (by exact hnews) hone h0 (by unfold maxLen; omega) (by omega) (by simp) (w.heap.size + 1) (by simp) ?_; intro g' cap' w2 hown' hg' hgb hgl)
    have HF : Hid (w2.ownsRow w.heap.size Erw 4 (.slice (some ⟨g', 0, none⟩) l.length cap') l.length (fl4 l) ∧ Ext w w2) := ⟨by rw [Nat.zero_add] at hown'; exact hown', row_grown hg' hown HX.out (Nat.le_refl _)⟩
    go_wp2_with fail
    go_ret
    exact ⟨_, cap', rfl, ⟨lr_row HF.out.1, fun k off e => by cases e; exact (HF.out.1.lt g' rfl).1⟩, HF.out.2⟩
  · have hx0 : l = [] := List.length_eq_zero_iff.1 (by omega)
    subst hx0
    cases a with
    | none =>
      have heq := eqlr_none 0 c
      simp only [List.length_nil]
      go_enter Try.func57, Try.ntmps57
      go_wp2_with fail
      go_ret
      exact ⟨none, 0, rfl, ⟨fun i hi => by simp at hi, fun k off e => by cases e⟩, Ext.refl _⟩
    | some ad =>
      have HX : Hid (Ext w (w.alloc (.cells #[] Erw))) := (Ext.refl w).alloc _
      clear h
      have heq := eqlr_some ad 0 c
      simp only [List.length_nil]
      go_enter Try.func57, Try.ntmps57
      go_wp2_with fail
      go_ret
      exact ⟨some ⟨w.heap.size, 0, none⟩, 0, rfl, ⟨fun i hi => by simp at hi, fun k off e => by cases e; exact Nat.le_refl _⟩, HX.out⟩
/-- a model -/
structure Md where
  addr : Int
  id : Int
  list : List Raw
abbrev mv (m : Md) (a : Option Addr) (c : Nat) : Value := .agg #[.int .i64 m.addr, .int .i64 m.id, .slice a m.list.length c]
abbrev mc (m : Md) (a : Option Addr) (c : Nat) : Obj := .cells #[.int .i64 m.addr, .int .i64 m.id, .slice a m.list.length c] 35
/-- three cells that hold a model -/
def M3 (w : World) (b o : Nat) (m : Md) (a : Option Addr) (c : Nat) : Prop :=
  w.cell? ⟨b, o, none⟩ = some (.int .i64 m.addr) ∧ w.cell? ⟨b, o + 1, none⟩ = some (.int .i64 m.id) ∧ w.cell? ⟨b, o + 2, none⟩ = some (.slice a m.list.length c)
theorem M3.ext {w w' : World} {b o : Nat} {m : Md} {a : Option Addr} {c : Nat} (h : M3 w b o m a c) (x : Ext w w') : M3 w' b o m a c := ⟨x.keepc h.1, x.keepc h.2.1, x.keepc h.2.2⟩
theorem m3_new {w : World} {m : Md} {a : Option Addr} {c : Nat} {k : Nat} (h : w.heap.size = k) : M3 (w.alloc (mc m a c)) k 0 m a c := by
  subst h
  refine ⟨?_, ?_, ?_⟩ <;> simp [go_sem]
/-- the device of a model -/
def Md.dev (m : Md) : Dv := ⟨m.addr, m.id, m.list, 0, false, 1, 0, [], 0⟩
def okM (m : Md) : Bool := inn m.addr 0 127 && inn m.id 0 255 && (decide (m.list.length ≤ 4096) && m.list.all okR)
set_option maxRecDepth 20000 in
set_option maxHeartbeats 8000000 in
theorem newdev_any (w : World) (m : Md) (a : Option Addr) (c : Nat) (h : LR w a m.list) (hm : m.list.length ≤ 4096) (hid : 0 ≤ m.id ∧ m.id ≤ 255) :
    Calls Try.prog 44 #[mv m a c] w fun e w' => ∃ x : DA, e = .returned (.pointer (some ⟨x.p, 0, none⟩)) ∧ IsDev w' x m.dev ∧ (∀ k, DL x m.list.length k → w.heap.size ≤ k) ∧ Ext w w' := by
  have e1 : Ext w (w.alloc (mc m a c)) := (Ext.refl w).alloc _
  have HN := new_lq (w.alloc (mc m a c)) 16 (by omega) (by omega)
  have h1 : M3 (w.alloc (mc m a c)) w.heap.size 0 m a c := m3_new rfl
  go_enter Try.func44, Try.ntmps44
  go_upto_region 1 with fail
  have hs1 : w.heap.size < (w.alloc (mc m a c)).heap.size := by simp
  generalize w.alloc (mc m a c) = w1 at *
  go_upto_region 2 with (go_at_call 56; refine HN.mono ?_; rintro e w2 ⟨p, d, cc, rfl, hr, lp, ld, lc, x2⟩)
  have HC : Hid (∀ n, Calls Try.prog 57 #[.slice a m.list.length c] (w2.drewN n) fun e w' => ∃ r rc, e = .returned (.slice r m.list.length rc) ∧ (LR w' r m.list ∧ ∀ k off, r = some ⟨k, off, none⟩ → (w2.drewN n).heap.size ≤ k) ∧ Ext (w2.drewN n) w' ∧ M3 w' w.heap.size 0 m a c) := fun n => (clone_raw (w2.drewN n) a m.list c (((h.ext e1).ext x2).ext (drewN_ext n)) hm).mono fun e w' ⟨r, rc, he, hl, hx⟩ => ⟨r, rc, he, hl, hx, ((h1.ext x2).ext (drewN_ext n)).ext hx⟩
  obtain ⟨k0, k1, k2⟩ := h1.ext x2
  have HR : Hid (Rq w2 p d cc 16 []) := hr
  have HX : Hid (Ext w w2 ∧ w.heap.size ≤ p ∧ w.heap.size ≤ d ∧ w.heap.size ≤ cc) := ⟨e1.trans x2, by omega, by omega, by omega⟩
  clear HN h1 hr lp ld lc x2 e1 h
  obtain ⟨addr, id, list⟩ := m
  simp only at *
  go_region_held3 (fun w' => w'.cell? ⟨w.heap.size, 0, none⟩ = some (.int .i64 addr) ∧ w'.cell? ⟨w.heap.size, 0 + 1, none⟩ = some (.int .i64 id) ∧ w'.cell? ⟨w.heap.size, 0 + 2, none⟩ = some (.slice a list.length c)) (first | (go_keep; done) | skip) (first | (go_at_call 57; refine (HC.out 1).mono ?_; rintro e w3 ⟨r, rc, rfl, hl, x3, j0, j1, j2⟩))
  have x4 : Ext w3 (w3.alloc (.cells #[.int .i64 addr, .int .i64 id, .slice r list.length rc, .int .i64 0, .bool false, .int .i64 1, .int .i64 0, .pointer (some ⟨p, 0, none⟩), .int .i64 0] 102)) := (Ext.refl w3).alloc _
  have q2 : Ext w2 w3 := (drewN_ext 1).trans x3
  obtain ⟨lp, ld, lc⟩ := HR.out.lt
  have lw := HX.out.1.size
  have l3 := q2.size
  have HF : Hid (IsDev (w3.alloc (.cells #[.int .i64 addr, .int .i64 id, .slice r list.length rc, .int .i64 0, .bool false, .int .i64 1, .int .i64 0, .pointer (some ⟨p, 0, none⟩), .int .i64 0] 102)) ⟨w3.heap.size, p, d, cc, r, rc⟩ (Md.dev ⟨addr, id, list⟩) ∧ (∀ k, DL ⟨w3.heap.size, p, d, cc, r, rc⟩ list.length k → w.heap.size ≤ k) ∧ Ext w (w3.alloc (.cells #[.int .i64 addr, .int .i64 id, .slice r list.length rc, .int .i64 0, .bool false, .int .i64 1, .int .i64 0, .pointer (some ⟨p, 0, none⟩), .int .i64 0] 102))) := by
    refine ⟨⟨by simp [go_sem, Md.dev], by simp [go_sem, Md.dev], by simp [go_sem, Md.dev], by simp [go_sem, Md.dev], by simp [go_sem, Md.dev], by simp [go_sem, Md.dev], by simp [go_sem, Md.dev], by simp [go_sem], by simp [go_sem, Md.dev], fun j => ?_, hl.1.ext x4, ?_, (HR.out.ext q2).ext x4, ?_, fun h => h, hm, ⟨Nat.le_refl _, by show (1 : Nat) ≤ 256; omega⟩, hid⟩, ?_, (HX.out.1.trans q2).trans x4⟩
    · unfold World.frozen?; rw [heap_alloc_new]; simp
    · intro k off h0 e o
      obtain ⟨b', off', e', cc'⟩ := hl.1 0 h0
      have hk := hl.2 k off e
      have hk2 : k < w3.heap.size := by
        have e2 : r = some ⟨k, off, none⟩ := e
        rw [e2] at e'; cases e'
        exact World.block_lt_of_cell? w3 ⟨k, off + 0 * 4, none⟩ cc'.1
      have hsz : (w2.drewN 1).heap.size = w2.heap.size := rfl
      rcases o with o | o | o | o <;> simp only at o <;> omega
    · show w3.heap.size ≠ p ∧ w3.heap.size ≠ d ∧ w3.heap.size ≠ cc
      omega
    · intro k o
      have hh := HX.out.2
      rcases o with (o | o | o | o) | ⟨_, off, o⟩
      · simp only at o; omega
      · simp only at o; omega
      · simp only at o; omega
      · simp only at o; omega
      · have := hl.2 k off o
        have hsz : (w2.drewN 1).heap.size = w2.heap.size := rfl
        omega
  go_wp2_with fail
  go_ret
  exact ⟨⟨w3.heap.size, p, d, cc, r, rc⟩, rfl, HF.out⟩
end Go.Proofs.Ytfgljkeohoffiaa
