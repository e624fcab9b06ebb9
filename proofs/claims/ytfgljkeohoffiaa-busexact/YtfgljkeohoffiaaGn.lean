/- bus: join. -/
import Derived.Test.YtfgljkeohoffiaaGm
import Derived.Deep.RegionLaw
namespace Go.Proofs.Ytfgljkeohoffiaa
open Go.RowKit Go.Conc
def upd {α : Type} (f : Nat → α) (k : Nat) (x : α) : Nat → α := fun j => if j = k then x else f j
theorem upd_at {α : Type} (f : Nat → α) (k : Nat) (x : α) : upd f k x k = x := if_pos rfl
theorem upd_ne {α : Type} (f : Nat → α) {k j : Nat} (x : α) (h : j ≠ k) : upd f k x j = f j := if_neg h
def gm (M : List Md) (i : Nat) : Md := M.getD i ⟨0, 0, []⟩
def dvs (M : List Md) (i : Nat) : Dv := (gm M i).dev
/-- the first k of them may be -/
def okUp (M : List Md) : Nat → Bool
  | 0 => true
  | k + 1 => okUp M k && (okM (gm M k) && (fnd (dvs M) k (gm M k).addr).isNone)
def okMs (M : List Md) : Bool := decide (M.length ≤ 8) && okUp M M.length
theorem okUp_false (M : List Md) {k : Nat} (h : okUp M k = false) : ∀ {n : Nat}, k ≤ n → okUp M n = false
  | 0, hn => by have : k = 0 := by omega
                subst this; exact h
  | n + 1, hn => by
    by_cases e : k = n + 1
    · subst e; exact h
    · unfold okUp; rw [okUp_false M h (n := n) (by omega)]; rfl
/-- models, one behind the other -/
def MRs (w : World) (a : Option Addr) (M : List Md) : Prop :=
  ∀ i, i < M.length → ∃ b off la lc, a = some ⟨b, off, none⟩ ∧ M3 w b (off + i * 3) (gm M i) la lc ∧ LR w la (gm M i).list ∧ (gm M i).list.length ≤ maxLen
theorem MRs.ext {w w' : World} {a : Option Addr} {M : List Md} (h : MRs w a M) (x : Ext w w') : MRs w' a M := fun i hi => by
  obtain ⟨b, off, la, lc, e, h1, h2, h3⟩ := h i hi
  exact ⟨b, off, la, lc, e, h1.ext x, h2.ext x, h3⟩
section
variable {w w9 : World} {b : Nat} {v v' : Value} {X : Nat → DA} {L : Nat → Nat} {k : Nat} {D : Nat → Dv} {x : DA} {s : Dv} {B : Nat}
theorem ptrs_more (X : Nat → DA) (k : Nat) (x : DA) : ptrs (upd X k x) (k + 1) = ptrs X k ++ [.pointer (some ⟨x.p, 0, none⟩)] := by
  unfold ptrs
  rw [List.range_succ, List.map_append, List.map_singleton, upd_at]
  congr 1
  apply List.map_congr_left
  intro i hi
  rw [upd_ne _ _ (by have := List.mem_range.1 hi; omega)]
theorem IsDevs.more (h : IsDevs w b v X L k D) (hk : k < 8) (hd : IsDev w x s) (hB : ∀ j, FD b v X L k j → j < B) (hx : ∀ j, DL x s.list.length j → B ≤ j)
    (ho : w9.ownsRow 0 Edp 1 v' (k + 1) (ptrs X k ++ [.pointer (some ⟨x.p, 0, none⟩)])) (hg : w.grownBy w9 v.ownBlock) (hv : ∀ g, v'.ownBlock = some g → v.ownBlock = some g ∨ w.heap.size ≤ g) :
    IsDevs (w9.setCell ⟨b, 0, none⟩ v') b v' (upd X k x) (upd L k s.list.length) (k + 1) (upd D k s) := by
  have t1 : Tn (fun j => v.ownBlock = some j) w w9 := (Tn.refl _ w).grown hg (fun j e => .inl e)
  have t2 : Tn (fun j => v.ownBlock = some j ∨ j = b) w (w9.setCell ⟨b, 0, none⟩ v') := (t1.mono (own := fun j => v.ownBlock = some j ∨ j = b) (fun _ _ o => .inl o)).set (.inl (.inr rfl)) 0 v'
  have t3 : Tn (fun j => j = b) w9 (w9.setCell ⟨b, 0, none⟩ v') := (Tn.refl (fun j => j = b) w9).set (.inl rfl) 0 v'
  have hb : b < w.heap.size := h.lt b (.inl rfl)
  have hbB : b < B := hB b (.inl rfl)
  have c9 := t1.keepc (fun e => h.vb e) h.c0
  have hb9 : b < w9.heap.size := Nat.lt_of_lt_of_le hb t1.size
  have hvb : v'.ownBlock ≠ some b := fun e => by
    rcases hv b e with q | q
    · exact h.vb q
    · omega
  refine ⟨World.cell?_setCell_same' _ _ _ (by rw [c9]; rfl), fun j => ?_, ?_, fun i hi => ?_, fun i hi => ?_, fun i j hi hj hne kk o => ?_, fun i hi => ?_, fun i kk hi e => ?_, hvb, by omega⟩
  · rw [World.frozen?_setCell]
    exact frozen_tn t1 hb (fun e => h.vb e) j (h.f j)
  · rw [ptrs_more]
    exact row_tn ho t3 (fun j _ e ej => hvb (by rw [← ej]; exact e))
  · by_cases e : i = k
    · subst e; rw [upd_at, upd_at]
      refine hd.tn t2 (fun j o => ?_)
      have h1 := hx j o
      rintro (q | q)
      · have := hB j (.inr (.inl q)); omega
      · omega
    · have hi' : i < k := by omega
      rw [upd_ne _ _ e, upd_ne _ _ e]
      refine (h.dev i hi').tn t2 (fun j o => ?_)
      rw [h.len i hi'] at o
      rintro (q | q)
      · exact h.av i j hi' q o
      · subst q; exact h.ab i hi' o
  · by_cases e : i = k
    · subst e; rw [upd_at, upd_at]
    · rw [upd_ne _ _ e, upd_ne _ _ e]; exact h.len i (by omega)
  · by_cases ei : i = k
    · subst ei
      rw [upd_at, upd_at] at o
      rw [upd_ne _ _ (Ne.symm hne)]
      intro o2
      have h1 := hx kk o
      have h2 := hB kk (.inr (.inr ⟨j, by omega, .inl o2⟩))
      omega
    · rw [upd_ne _ _ ei, upd_ne _ _ ei] at o
      by_cases ej : j = k
      · subst ej
        rw [upd_at]
        intro o2
        have h1 := hx kk (.inl o2)
        have h2 := hB kk (.inr (.inr ⟨i, by omega, o⟩))
        omega
      · rw [upd_ne _ _ ej]
        exact h.ap i j (by omega) (by omega) hne kk o
  · by_cases e : i = k
    · subst e; rw [upd_at, upd_at]
      intro o
      have := hx b o
      omega
    · rw [upd_ne _ _ e, upd_ne _ _ e]; exact h.ab i (by omega)
  · by_cases ei : i = k
    · subst ei; rw [upd_at, upd_at]
      intro o
      have h1 := hx kk o
      rcases hv kk e with q | q
      · have := hB kk (.inr (.inl q)); omega
      · have := hd.lt kk o; omega
    · rw [upd_ne _ _ ei, upd_ne _ _ ei]
      intro o
      rcases hv kk e with q | q
      · exact h.av i kk (by omega) q o
      · have := h.lt kk (.inr (.inr ⟨i, by omega, o⟩)); omega
end
/-- k models have become devices -/
structure JI (w0 wr : World) (b : Nat) (v : Value) (X : Nat → DA) (L : Nat → Nat) (k : Nat) (D : Nat → Dv) : Prop where
  d : IsDevs wr b v X L k D
  x : Ext w0 wr
  n : ∀ j, FD b v X L k j → w0.heap.size ≤ j
  c1 : wr.cell? ⟨b, 1, none⟩ = some (.map none)
  c2 : wr.cell? ⟨b, 2, none⟩ = some (.int .i64 0)
theorem JI.ext {w0 wr w' : World} {b : Nat} {v : Value} {X : Nat → DA} {L : Nat → Nat} {k : Nat} {D : Nat → Dv} (h : JI w0 wr b v X L k D) (x : Ext wr w') : JI w0 w' b v X L k D :=
  ⟨h.d.ext x, h.x.trans x, h.n, x.keepc h.c1, x.keepc h.c2⟩
theorem IsDevs.congr {w : World} {b : Nat} {v : Value} {X : Nat → DA} {L : Nat → Nat} {k : Nat} {D D' : Nat → Dv} (h : IsDevs w b v X L k D) (h1 : ∀ i, i < k → D' i = D i) : IsDevs w b v X L k D' :=
  ⟨h.c0, h.f, h.row, fun i hi => by rw [h1 i hi]; exact h.dev i hi, fun i hi => by rw [h1 i hi]; exact h.len i hi, h.ap, h.ab, h.av, h.vb, h.n8⟩
theorem Try.infoTd : (Try.prog.info? Edp).map (fun i => (i.zero, i.size, i.bytes)) = some (some (.pointer none), 1, 8) := by kernel_rfl
theorem one_new (w : World) (u : Value) (T : TypeId) : ∀ j x, [u][j]? = some x → (w.alloc (.cells #[u] T)).cell? ((⟨w.heap.size, 0, none⟩ : Addr).add j) = some x := by
  intro j y h
  match j, h with
  | 0, h => simp at h; subst h; simp [Addr.add, go_sem]
  | j + 1, h => simp at h
/-- a call as one step of a region that draws -/
theorem step_call {P : Program} {ops : Array Oper} {o : Oper} {a : Act} {w : World} {K : Act → World → Prop} {Q : Exit → Act → World → Prop} {E : Prop} {f : FuncId} {args : Array Value} (hgd : o.guard = none)
    (hr : (execOp a.eval o).run P w = .ok (.enter f args) w) (hc : Calls P f args w (fun e w' => ∃ v, e = .returned v ∧ K (a.put o.dst v) w')) : if Region.wanted o (yielded ops a.tmps) = true then Oper.wp P o a w K Q else E := by
  have hw : Region.wanted o (yielded ops a.tmps) = true := by simp [Region.wanted, hgd]
  rw [if_pos hw]
  simp only [Oper.wp, hr, Oper.upon]
  refine hc.mono ?_
  rintro e w' ⟨v, rfl, h⟩
  exact h
theorem M3.intro {w : World} {b : Nat} {addr id : Int} {list : List Raw} {a : Option Addr} {c : Nat} (h0 : w.cell? ⟨b, 0, none⟩ = some (.int .i64 addr)) (h1 : w.cell? ⟨b, 0 + 1, none⟩ = some (.int .i64 id)) (h2 : w.cell? ⟨b, 0 + 2, none⟩ = some (.slice a list.length c)) : M3 w b 0 ⟨addr, id, list⟩ a c := ⟨h0, h1, h2⟩
theorem app_keep {w4 w9 : World} {v u0 : Value} {o : Obj} {b V : Nat} {m : Md} {la : Option Addr} {lc : Nat} (hg : (w4.alloc o).grownBy w9 v.ownBlock) (h1 : v.ownBlock ≠ some b) (h2 : v.ownBlock ≠ some V) (c0 : w4.cell? ⟨b, 0, none⟩ = some u0) (f0 : w4.frozen? ⟨b, 0, none⟩ = false) (hm : M3 w4 V 0 m la lc) :
    (w9.cell? ⟨b, 0, none⟩ = some u0 ∧ w9.frozen? ⟨b, 0, none⟩ = false) ∧ M3 w9 V 0 m la lc := by
  have t : Tn (fun j => v.ownBlock = some j) w4 w9 := (Tn.of_ext ((Ext.refl w4).alloc o)).grown hg (fun j e => .inl e)
  exact ⟨⟨t.keepc h1 c0, t.keepf h1 c0 f0⟩, t.keepc h2 hm.1, t.keepc h2 hm.2.1, t.keepc h2 hm.2.2⟩
/-- one more device -/
theorem JI.more {w0 w1 w4 w9 : World} {b : Nat} {v v' : Value} {X : Nat → DA} {L : Nat → Nat} {k : Nat} {M : List Md} {x : DA} {m : Md} {o : Obj} (hm : dvs M k = m.dev) (hk : k < 8) (hd : IsDev w4 x m.dev) (hx : ∀ j, DL x m.list.length j → w1.heap.size ≤ j) (h4 : JI w0 w4 b v X L k (dvs M)) (h1 : JI w0 w1 b v X L k (dvs M))
    (ho : w9.ownsRow 0 Edp 1 v' (k + 1) (ptrs X k ++ [.pointer (some ⟨x.p, 0, none⟩)])) (hg : (w4.alloc o).grownBy w9 v.ownBlock) (hv : ∀ g, v'.ownBlock = some g → v.ownBlock = some g ∨ w4.heap.size + 1 = g) :
    JI w0 (w9.setCell ⟨b, 0, none⟩ v') b v' (upd X k x) (upd L k m.list.length) (k + 1) (dvs M) := by
  have x4 : Ext w4 (w4.alloc o) := (Ext.refl w4).alloc o
  have hs : (w4.alloc o).heap.size = w4.heap.size + 1 := by simp
  have l1 : ∀ j, FD b v X L k j → j < w1.heap.size := h1.d.lt
  have D := (h4.d.ext x4).more hk (hd.ext x4) l1 hx ho hg (fun g e => by rcases hv g e with q | q; exact .inl q; exact .inr (by omega))
  have t : Tn (fun j => v.ownBlock = some j) w4 w9 := (Tn.of_ext x4).grown hg (fun j e => .inl e)
  have hbo : w0.heap.size ≤ b := h4.n b (.inl rfl)
  have sw : w0.heap.size ≤ w1.heap.size := h1.x.size
  have sw4 : w0.heap.size ≤ w4.heap.size := h4.x.size
  refine ⟨?_, ?_, fun j o => ?_, ?_, ?_⟩
  · refine D.congr (fun i hi => ?_)
    by_cases e : i = k
    · subst e; rw [upd_at]; exact hm
    · rw [upd_ne _ _ e]
  · exact ((t.below h4.x (fun i e => h4.n i (.inr (.inl e)))).new hbo 0 v')
  · rcases o with o | o | ⟨i, hi, o⟩
    · omega
    · rcases hv j o with q | q
      · exact h4.n j (.inr (.inl q))
      · omega
    · by_cases e : i = k
      · subst e; rw [upd_at, upd_at] at o
        have := hx j o; omega
      · rw [upd_ne _ _ e, upd_ne _ _ e] at o
        exact h4.n j (.inr (.inr ⟨i, by omega, o⟩))
  · have q := t.keepc (fun e => h4.d.vb e) h4.c1
    simp [go_sem, q]
  · have q := t.keepc (fun e => h4.d.vb e) h4.c2
    simp [go_sem, q]
set_option maxRecDepth 20000 in
set_option maxHeartbeats 8000000 in
theorem join_any (w0 w : World) (b : Nat) (a : Option Addr) (M : List Md) (c : Nat) (hM : MRs w0 a M) (hl : M.length ≤ maxLen) (hI : ∀ D, JI w0 w b (.slice none 0 0) (fun _ => ⟨0, 0, 0, 0, none, 0⟩) (fun _ => 0) 0 D) :
    Calls Try.prog 24 #[.pointer (some ⟨b, 0, none⟩), .slice a M.length c] w fun e w' => e = .returned (.bool (okMs M)) ∧ Ext w0 w' ∧ (okMs M = true → ∃ v X L, JI w0 w' b v X L M.length (dvs M)) := by
  unfold maxLen at hl
  have HI : Hid (JI w0 w b (.slice none 0 0) (fun _ => ⟨0, 0, 0, 0, none, 0⟩) (fun _ => 0) 0 (dvs M)) := hI _
  have HM : Hid (MRs w0 a M) := hM
  clear hI hM
  obtain ⟨i0, hi, hz0, hz1, hz2⟩ := info_parts Try.infoTd
  by_cases h8 : M.length ≤ 8
  · have h8i : ¬ (8 : Int) < (M.length : Int) := by omega
    have h8b : decide ((8 : Int) < (M.length : Int)) = false := by simpa using h8i
    have ex : Hid (okMs M = okUp M M.length) := by show _ = _; unfold okMs; simp [h8]
    go_enter Try.func24, Try.ntmps24
    go_wp2_with fail
    go_loopw [6, 12] (fun _ i wr => ∃ (k : Nat) (v : Value) (X : Nat → DA) (L : Nat → Nat), k ≤ M.length ∧ i = .int .i64 k ∧ Hid (okUp M k = true ∧ JI w0 wr b v X L k (dvs M))) (fun _ i _ => M.length - (intOf i).toNat)
    case atStart => exact ⟨0, _, _, _, Nat.zero_le _, rfl, rfl, HI.out⟩
    case round =>
      obtain ⟨k, v, X, L, hk, rfl, hR⟩ := hrel
      by_cases hlt : k < M.length
      · have hlti : (k : Int) < (M.length : Int) := by omega
        obtain ⟨b1, o1, la, lc, rfl, ⟨k0, k1, k2⟩, hlr, hll⟩ := HM.out.ext hR.out.2.x k hlt
        have x1 : Ext wr (wr.alloc (mc (gm M k) la lc)) := (Ext.refl wr).alloc _
        have HW := ismodel_any (wr.alloc (mc (gm M k) la lc)) (gm M k) la lc (hlr.ext x1) hll
        have ej : Hid (okUp M (k + 1) = (okUp M k && (okM (gm M k) && (fnd (dvs M) k (gm M k).addr).isNone))) := rfl
        cases hok : okM (gm M k) <;> rw [hok] at HW
        · have e2 : Hid (okMs M = false) := by show _ = _; rw [ex.out]; exact okUp_false M (k := k + 1) (by rw [ej.out, hok]; simp) (by omega)
          clear hok
          have HX : Hid (Ext w0 (wr.alloc (mc (gm M k) la lc))) := hR.out.2.x.trans x1
          clear hlr x1 hR
          generalize gm M k = m at *
          obtain ⟨addr, id, list⟩ := m
          simp only at *
          go_wp2_with (go_at_call 43; refine HW.mono ?_; rintro e w2 ⟨rfl, x2⟩)
          go_ret
          rw [e2.out]
          exact ⟨rfl, HX.out.trans x2, fun h => by cases h⟩
        · obtain ⟨va, vc, rfl, _⟩ := hR.out.2.d.form
          have HV : Hid (∀ w2, Ext (wr.alloc (mc (gm M k) la lc)) w2 → Calls Try.prog 33 #[.pointer (some ⟨b, 0, none⟩), .int .i64 (gm M k).addr] w2 fun e w' => e = .returned (dptr X (fnd (dvs M) k (gm M k).addr)) ∧ w' = w2) := fun w2 x2 => device_any ((hR.out.2.d.ext x1).ext x2) _
          cases hf : fnd (dvs M) k (gm M k).addr with
          | some i =>
            rw [hf] at HV
            have e2 : Hid (okMs M = false) := by show _ = _; rw [ex.out]; exact okUp_false M (k := k + 1) (by rw [ej.out, hf]; simp) (by omega)
            have HX : Hid (Ext w0 (wr.alloc (mc (gm M k) la lc))) := hR.out.2.x.trans x1
            have hv1 : Hid (M3 (wr.alloc (mc (gm M k) la lc)) wr.heap.size 0 (gm M k) la lc) := m3_new rfl
            clear hf hok hlr x1 hR ej
            generalize gm M k = m at *
            obtain ⟨addr, id, list⟩ := m
            simp only [dptr] at *
            go_wp2_with (first | (go_at_call 43; refine HW.mono ?_; rintro e w2 ⟨rfl, x2⟩; have k9 := (hv1.out.ext x2).1) | (go_at_call 33; refine (HV.out _ x2).mono ?_; rintro e w3 ⟨rfl, rfl⟩))
            go_ret
            rw [e2.out]
            exact ⟨rfl, HX.out.trans x2, fun h => by cases h⟩
          | none =>
            rw [hf] at HV
            have e2 : Hid (okUp M (k + 1) = true) := by show _ = _; rw [ej.out, hR.out.1, hok, hf]; rfl
            have hv1 : Hid (M3 (wr.alloc (mc (gm M k) la lc)) wr.heap.size 0 (gm M k) la lc) := m3_new rfl
            have HJ : Hid (JI w0 (wr.alloc (mc (gm M k) la lc)) b (.slice va k vc) X L k (dvs M)) := hR.out.2.ext x1
            have HL : Hid (LR (wr.alloc (mc (gm M k) la lc)) la (gm M k).list) := hlr.ext x1
            have hm : (gm M k).list.length ≤ 4096 ∧ 0 ≤ (gm M k).id ∧ (gm M k).id ≤ 255 := by
              unfold okM at hok
              simp only [Bool.and_eq_true, decide_eq_true_eq, inn_iff] at hok
              exact ⟨hok.2.1, hok.1.2⟩
            have HMM : Hid ((gm M k).list.length ≤ 4096 ∧ 0 ≤ (gm M k).id ∧ (gm M k).id ≤ 255) := hm
            have HDV : Hid (dvs M k = (gm M k).dev) := rfl
            have HVB : Hid ((Value.slice va k vc).ownBlock ≠ some b ∧ (Value.slice va k vc).ownBlock ≠ some wr.heap.size) := ⟨hR.out.2.d.vb, fun e => by have := hR.out.2.d.lt _ (.inr (.inl e)); omega⟩
            clear hf hok hlr x1 hR ej hm
            generalize gm M k = m at *
            obtain ⟨addr, id, list⟩ := m
            simp only [dptr] at *
            go_upto_region 8 with (first | (go_at_call 43; refine HW.mono ?_; rintro e w2 ⟨rfl, x2⟩; have k9 := (hv1.out.ext x2).1) | (go_at_call 33; refine (HV.out _ x2).mono ?_; rintro e w3 ⟨rfl, rfl⟩))
            have HP : Hid (∀ W n, Ext (wr.alloc (mc ⟨addr, id, list⟩ la lc)) W → Calls Try.prog 44 #[mv ⟨addr, id, list⟩ la lc] (W.drewN n) fun e w' => ∃ x : DA, e = .returned (.pointer (some ⟨x.p, 0, none⟩)) ∧ Hid (IsDev w' x (Md.dev ⟨addr, id, list⟩) ∧ (∀ k, DL x list.length k → (W.drewN n).heap.size ≤ k) ∧ JI w0 w' b (.slice va k vc) X L k (dvs M) ∧ JI w0 (W.drewN n) b (.slice va k vc) X L k (dvs M)) ∧ (w'.cell? ⟨b, 0, none⟩ = some (.slice va k vc) ∧ w'.frozen? ⟨b, 0, none⟩ = false) ∧ M3 w' wr.heap.size 0 ⟨addr, id, list⟩ la lc) := fun W n xW => by
              have xn := xW.trans (drewN_ext n)
              refine (newdev_any (W.drewN n) ⟨addr, id, list⟩ la lc (HL.out.ext xn) HMM.out.1 HMM.out.2).mono ?_
              rintro e w' ⟨x, he, h1, h2, h3⟩
              have j := (HJ.out.ext xn).ext h3
              exact ⟨x, he, ⟨h1, h2, j, HJ.out.ext xn⟩, ⟨j.d.c0, j.d.f 0⟩, (hv1.out.ext xn).ext h3⟩
            have HJ2 := HJ.out.ext x2
            have c0 := HJ2.d.c0
            have f0 := HJ2.d.f 0
            obtain ⟨y0, y1, y2⟩ := hv1.out.ext x2
            have h63 : k + 1 ≤ maxLen := by unfold maxLen; omega
            have hby : (k + 1) * 8 ≤ 140737488355328 := by omega
            have hk8 : k < 8 := by omega
            clear HJ2 HW HV
            go_region_law (first | (refine step_call rfl (f := 44) (args := #[mv ⟨addr, id, list⟩ la lc]) (by simp [go_sem]) ((HP.out _ 1 x2).mono ?_); rintro e w4 ⟨x, rfl, hN, ⟨s0, sf⟩, s1, s2, s3⟩; refine ⟨_, rfl, ?_⟩; have s4 := (hN.out.2.2.1.d.ext ((Ext.refl w4).alloc (.cells #[.pointer (some ⟨x.p, 0, none⟩)] Edp))).c0; have s5 := (hN.out.2.2.1.d.ext ((Ext.refl w4).alloc (.cells #[.pointer (some ⟨x.p, 0, none⟩)] Edp))).f 0) | (refine step_append_lies _ rfl (.tmp 30) (.tmp 33) 67 rfl 0 Edp i0 (.pointer none) 1 8 Try.underlying67 hi hz0 hz1 hz2 rfl (by decide) _ k (ptrs X k) rfl (by exact hN.out.2.2.1.d.row.alloc _) ⟨w4.heap.size, 0, none⟩ 1 1 [.pointer (some ⟨x.p, 0, none⟩)] rfl rfl (by exact one_new w4 _ _) (by simp [Value.oneCell']) (by decide) h63 hby (Nat.zero_le _) (w4.heap.size + 1) (by simp) ?_; intro g' cap' w9 hown' hg' hgb hgl; obtain ⟨⟨q0, qf⟩, q1, q2, q3⟩ := app_keep hg' HVB.out.1 HVB.out.2 s0 sf (M3.intro s1 s2 s3); have R9 : Hid (JI w0 (w9.setCell ⟨b, 0, none⟩ (.slice (some ⟨g', 0, none⟩) (k + 1) cap')) b (.slice (some ⟨g', 0, none⟩) (k + 1) cap') (upd X k x) (upd L k list.length) (k + 1) (dvs M)) := JI.more HDV.out hk8 hN.out.1 hN.out.2.1 hN.out.2.2.1 hN.out.2.2.2 hown' hg' (fun g e => by cases e; rcases hgb with q | q; exact .inl q; exact .inr q.symm); clear hown' hg' hgb hgl hN))
            all_goals
              go_wp2_with fail
              go_roundw
              case measure => simp [intOf]; omega
              case rel => exact ⟨k + 1, _, _, _, by omega, by simp, e2.out, R9.out⟩
      · have hlti : ¬ (k : Int) < (M.length : Int) := by omega
        have hkl : k = M.length := by omega
        have HF : Hid (okMs M = true ∧ JI w0 wr b v X L M.length (dvs M)) := by
          refine ⟨?_, ?_⟩
          · rw [ex.out, ← hkl]; exact hR.out.1
          · rw [← hkl]; exact hR.out.2
        clear hR hkl HI
        go_wp2_with fail
        go_ret
        rw [HF.out.1]
        exact ⟨rfl, HF.out.2.x, fun _ => ⟨v, X, L, HF.out.2⟩⟩
  · have h8i : (8 : Int) < (M.length : Int) := by omega
    have e : Hid (okMs M = false) := by show _ = _; unfold okMs; simp [h8]
    go_enter Try.func24, Try.ntmps24
    go_wp2_with fail
    go_ret
    rw [e.out]
    exact ⟨rfl, HI.out.x, fun h => by cases h⟩
end Go.Proofs.Ytfgljkeohoffiaa
