/- bus: isModel; the devices of a bus; device. -/
import Derived.Test.YtfgljkeohoffiaaGl
namespace Go.Proofs.Ytfgljkeohoffiaa
open Go.RowKit Go.Conc
theorem all_smp (l : List Raw) : l.all okR = true ↔ ∀ j, j < l.length → okR (smp l j) = true := by
  rw [List.all_eq_true]
  constructor
  · intro h j hj
    have : smp l j = l[j] := by simp [smp, hj]
    rw [this]; exact h _ (List.getElem_mem hj)
  · intro h r hr
    obtain ⟨j, hj, rfl⟩ := List.getElem_of_mem hr
    have := h j hj
    simpa [smp, hj] using this
theorem all_not (l : List Raw) {j : Nat} (hj : j < l.length) (h : okR (smp l j) = false) : l.all okR = false := by
  cases e : l.all okR
  · rfl
  · have := (all_smp l).1 e j hj
    rw [h] at this; cases this
set_option maxRecDepth 20000 in
set_option maxHeartbeats 8000000 in
theorem ismodel_any (w : World) (m : Md) (a : Option Addr) (c : Nat) (h : LR w a m.list) (hl : m.list.length ≤ maxLen) :
    Calls Try.prog 43 #[mv m a c] w fun e w' => e = .returned (.bool (okM m)) ∧ Ext w w' := by
  unfold maxLen at hl
  have e1 : Ext w (w.alloc (mc m a c)) := (Ext.refl w).alloc _
  have h1 : M3 (w.alloc (mc m a c)) w.heap.size 0 m a c := m3_new rfl
  have HL : Hid (∀ wr, Ext w wr → LR wr a m.list) := fun wr x => h.ext x
  have HX : Hid (∀ w, Calls Try.prog 48 #[.int .i64 m.addr] w fun e w' => e = .returned (.bool (inn m.addr 0 127)) ∧ w' = w) := isaddr_any _
  have HY : Hid (∀ w, Calls Try.prog 54 #[.int .i64 m.id] w fun e w' => e = .returned (.bool (inn m.id 0 255)) ∧ w' = w) := isid_any _
  have ex : Hid (okM m = (inn m.addr 0 127 && inn m.id 0 255 && (decide (m.list.length ≤ 4096) && m.list.all okR))) := rfl
  clear h
  obtain ⟨addr, id, list⟩ := m
  simp only at *
  cases h2 : inn addr 0 127 <;> rw [h2] at HX
  · have e : Hid (okM ⟨addr, id, list⟩ = false) := by show _ = _; rw [ex.out, h2]; rfl
    clear h2 ex
    go_enter Try.func43, Try.ntmps43
    go_wp2_with (go_at_call 48; refine (HX.out _).mono ?_; rintro e w' ⟨rfl, rfl⟩)
    go_ret
    rw [e.out]
    exact ⟨rfl, e1⟩
  cases h3 : inn id 0 255 <;> rw [h3] at HY
  · have e : Hid (okM ⟨addr, id, list⟩ = false) := by show _ = _; rw [ex.out, h2, h3]; rfl
    clear h2 h3 ex
    go_enter Try.func43, Try.ntmps43
    go_wp2_with (first | (go_at_call 48; refine (HX.out _).mono ?_; rintro e w' ⟨rfl, rfl⟩) | (go_at_call 54; refine (HY.out _).mono ?_; rintro e w' ⟨rfl, rfl⟩))
    go_ret
    rw [e.out]
    exact ⟨rfl, e1⟩
  by_cases h4 : list.length ≤ 4096
  · have e : Hid (okM ⟨addr, id, list⟩ = list.all okR) := by show _ = _; rw [ex.out, h2, h3]; simp [h4]
    have h4i : ¬ (4096 : Int) < (list.length : Int) := by omega
    have h4b : decide ((4096 : Int) < (list.length : Int)) = false := by simpa using h4i
    clear h2 h3 ex
    obtain ⟨k0, k1, k2⟩ := h1
    go_enter Try.func43, Try.ntmps43
    go_upto_region 1 with fail
    generalize w.alloc (mc ⟨addr, id, list⟩ a c) = w1 at *
    go_wp2_with (first | (go_at_call 48; refine (HX.out _).mono ?_; rintro e w' ⟨rfl, rfl⟩) | (go_at_call 54; refine (HY.out _).mono ?_; rintro e w' ⟨rfl, rfl⟩))
    have H0 : Hid (Ext w w') := e1
    clear k0 k1 k2 e1
    go_loopw [4, 24] (fun _ i wr => ∃ k : Nat, k ≤ list.length ∧ i = .int .i64 k ∧ Hid (Ext w wr ∧ ∀ j, j < k → okR (smp list j) = true)) (fun _ i _ => list.length - (intOf i).toNat)
    case atStart => exact ⟨0, Nat.zero_le _, rfl, H0.out, fun j hj => absurd hj (Nat.not_lt_zero _)⟩
    case round =>
      obtain ⟨k, hk, rfl, hR⟩ := hrel
      by_cases hlt : k < list.length
      · have hlti : (k : Int) < (list.length : Int) := by omega
        obtain ⟨b1, o1, rfl, i0, i1, i2, i3⟩ := HL.out wr hR.out.1 k hlt
        have HW := israw_any (smp list k) (wr.alloc (cells4 (smp list k)))
        cases hb : okR (smp list k) <;> rw [hb] at HW
        · have e2 : Hid (list.all okR = false) := all_not list hlt hb
          clear hb
          generalize smp list k = y at *
          go_wp2_with (go_at_call 55; refine HW.mono ?_; rintro e w2 ⟨rfl, x2⟩)
          go_ret
          rw [e.out, e2.out]
          exact ⟨rfl, (hR.out.1.alloc _).trans x2⟩
        · have HB : Hid (okR (smp list k) = true) := hb
          clear hb
          have HS : Hid (∀ w2, Ext (wr.alloc (cells4 (smp list k))) w2 → Ext w w2 ∧ ∀ j, j < k + 1 → okR (smp list j) = true) := fun w2 x2 => ⟨(hR.out.1.alloc _).trans x2, fun j hj => by
            by_cases ej : j = k
            · rw [ej]; exact HB.out
            · exact hR.out.2 j (by omega)⟩
          generalize smp list k = y at *
          go_wp2_with (go_at_call 55; refine HW.mono ?_; rintro e w2 ⟨rfl, x2⟩)
          have R2 : Hid (Ext w w2 ∧ ∀ j, j < k + 1 → okR (smp list j) = true) := HS.out w2 x2
          go_roundw
          case measure => simp [intOf]; omega
          case rel => exact ⟨k + 1, by omega, by simp, R2⟩
      · have hlti : ¬ (k : Int) < (list.length : Int) := by omega
        have e2 : Hid (list.all okR = true) := (all_smp list).2 (fun j hj => hR.out.2 j (by omega))
        go_wp2_with fail
        go_ret
        rw [e.out, e2.out]
        exact ⟨rfl, hR.out.1⟩
  · have e : Hid (okM ⟨addr, id, list⟩ = false) := by show _ = _; rw [ex.out, h2, h3]; simp [h4]
    have h4i : (4096 : Int) < (list.length : Int) := by omega
    clear h2 h3 ex
    go_enter Try.func43, Try.ntmps43
    go_wp2_with (first | (go_at_call 48; refine (HX.out _).mono ?_; rintro e w' ⟨rfl, rfl⟩) | (go_at_call 54; refine (HY.out _).mono ?_; rintro e w' ⟨rfl, rfl⟩))
    go_ret
    rw [e.out]
    exact ⟨rfl, e1⟩
/-- pointers to devices -/
def ptrs (X : Nat → DA) (n : Nat) : List Value := (List.range n).map fun i => (.pointer (some ⟨(X i).p, 0, none⟩) : Value)
theorem ptrs_at (X : Nat → DA) {n i : Nat} (h : i < n) : (ptrs X n)[i]? = some (.pointer (some ⟨(X i).p, 0, none⟩)) := by simp [ptrs, h]
abbrev Edp : TypeId := 85
/-- The devices of the bus at b. -/
structure IsDevs (w : World) (b : Nat) (v : Value) (X : Nat → DA) (L : Nat → Nat) (n : Nat) (D : Nat → Dv) : Prop where
  c0 : w.cell? ⟨b, 0, none⟩ = some v
  f : ∀ j, w.frozen? ⟨b, j, none⟩ = false
  row : w.ownsRow 0 Edp 1 v n (ptrs X n)
  dev : ∀ i, i < n → IsDev w (X i) (D i)
  len : ∀ i, i < n → (D i).list.length = L i
  ap : ∀ i j, i < n → j < n → i ≠ j → ∀ k, DL (X i) (L i) k → ¬ DO (X j) k
  ab : ∀ i, i < n → ¬ DL (X i) (L i) b
  av : ∀ i k, i < n → v.ownBlock = some k → ¬ DL (X i) (L i) k
  vb : v.ownBlock ≠ some b
  n8 : n ≤ 8
/-- the first device at an address -/
def fnd (D : Nat → Dv) : Nat → Int → Option Nat
  | 0, _ => none
  | n + 1, a => match fnd D n a with
    | some i => some i
    | none => if (D n).addr = a then some n else none
def dptr (X : Nat → DA) : Option Nat → Value
  | some i => .pointer (some ⟨(X i).p, 0, none⟩)
  | none => .pointer none
theorem fnd_none {D : Nat → Dv} {a : Int} : ∀ {n : Nat}, (∀ j, j < n → (D j).addr ≠ a) → fnd D n a = none
  | 0, _ => rfl
  | n + 1, h => by
    unfold fnd
    rw [fnd_none (n := n) (fun j hj => h j (by omega)), if_neg (h n (by omega))]
theorem fnd_some {D : Nat → Dv} {a : Int} {k : Nat} (h1 : ∀ j, j < k → (D j).addr ≠ a) (h2 : (D k).addr = a) : ∀ {n : Nat}, k < n → fnd D n a = some k
  | 0, h => by omega
  | n + 1, h => by
    unfold fnd
    by_cases e : k = n
    · subst e
      rw [fnd_none h1, if_pos h2]
    · rw [fnd_some h1 h2 (n := n) (by omega)]
theorem fnd_lt {D : Nat → Dv} {a : Int} : ∀ {n i : Nat}, fnd D n a = some i → i < n ∧ (D i).addr = a
  | 0, i, h => by cases h
  | n + 1, i, h => by
    unfold fnd at h
    cases e : fnd D n a with
    | some j =>
      rw [e] at h
      cases h
      have := fnd_lt e
      exact ⟨by omega, this.2⟩
    | none =>
      rw [e] at h
      simp only at h
      split at h
      · cases h; exact ⟨by omega, by assumption⟩
      · cases h
section
variable {w w' : World} {b : Nat} {v : Value} {X : Nat → DA} {L : Nat → Nat} {n : Nat} {D : Nat → Dv}
/-- where the devices lie -/
def FD (b : Nat) (v : Value) (X : Nat → DA) (L : Nat → Nat) (n : Nat) (k : Nat) : Prop := k = b ∨ v.ownBlock = some k ∨ ∃ i, i < n ∧ DL (X i) (L i) k
theorem IsDevs.tn {own : Nat → Prop} (h : IsDevs w b v X L n D) (t : Tn own w w') (ho : ∀ k, FD b v X L n k → ¬ own k) : IsDevs w' b v X L n D := by
  have hb := ho b (.inl rfl)
  have hlt := World.block_lt_of_cell? w ⟨b, 0, none⟩ h.c0
  exact ⟨t.keepc hb h.c0, fun j => frozen_tn t hlt hb j (h.f j), row_tn h.row t (fun k _ e => ho k (.inr (.inl e))), fun i hi => (h.dev i hi).tn t (fun k o => ho k (.inr (.inr ⟨i, hi, by rw [h.len i hi] at o; exact o⟩))), h.len, h.ap, h.ab, h.av, h.vb, h.n8⟩
theorem IsDevs.ext (h : IsDevs w b v X L n D) (x : Ext w w') : IsDevs w' b v X L n D := h.tn (own := fun _ => False) (Tn.of_ext x) (fun _ _ k => k)
theorem IsDevs.lt (h : IsDevs w b v X L n D) : ∀ k, FD b v X L n k → k < w.heap.size := by
  intro k o
  rcases o with rfl | o | ⟨i, hi, o⟩
  · exact World.block_lt_of_cell? w ⟨k, 0, none⟩ h.c0
  · exact (h.row.lt k o).2
  · exact (h.dev i hi).lt k (by rw [h.len i hi]; exact o)
/-- one device has turned -/
theorem IsDevs.turned (h : IsDevs w b v X L n D) {i : Nat} (hi : i < n) {s : Dv} (d : Dd (X i) s w w') (hs : s.list = (D i).list) : IsDevs w' b v X L n (fun j => if j = i then s else D j) := by
  have hlt := World.block_lt_of_cell? w ⟨b, 0, none⟩ h.c0
  have hb : ¬ DO (X i) b := fun o => h.ab i hi (.inl o)
  refine ⟨d.2.keepc hb h.c0, fun j => frozen_tn d.2 hlt hb j (h.f j), row_tn h.row d.2 (fun k _ e o => h.av i k hi e (.inl o)), fun j hj => ?_, fun j hj => ?_, h.ap, h.ab, h.av, h.vb, h.n8⟩
  · by_cases e : j = i
    · subst e; rw [if_pos rfl]; exact d.1
    · rw [if_neg e]
      exact (h.dev j hj).tn d.2 (fun k o => h.ap j i hj hi e k (by rw [h.len j hj] at o; exact o))
  · show (if j = i then s else D j).list.length = L j
    by_cases e : j = i
    · subst e; rw [if_pos rfl, hs]; exact h.len j hj
    · rw [if_neg e]; exact h.len j hj
theorem IsDevs.form (h : IsDevs w b v X L n D) : ∃ a cap, v = .slice a n cap ∧ ∀ i, i < n → ∃ g, a = some ⟨g, 0, none⟩ ∧ w.cell? ⟨g, i, none⟩ = some (.pointer (some ⟨(X i).p, 0, none⟩)) := by
  have hr := h.row
  rcases h.row.2 with ⟨e1, e2⟩ | ⟨g, cap, cur, e1, _⟩
  · exact ⟨none, 0, by rw [e1, e2], fun i hi => by omega⟩
  · refine ⟨_, cap, e1, fun i hi => ⟨g, rfl, ?_⟩⟩
    rw [e1] at hr
    rw [hr.cellAt _ (by omega)]
    exact ptrs_at X hi
set_option maxRecDepth 20000 in
set_option maxHeartbeats 8000000 in
theorem device_any (h : IsDevs w b v X L n D) (addr : Int) :
    Calls Try.prog 33 #[.pointer (some ⟨b, 0, none⟩), .int .i64 addr] w fun e w' => e = .returned (dptr X (fnd D n addr)) ∧ w' = w := by
  have c0 := h.c0
  have h8 := h.n8
  obtain ⟨a, cap, rfl, hc⟩ := h.form
  have HC : Hid (∀ i, i < n → ∃ g, a = some ⟨g, 0, none⟩ ∧ w.cell? ⟨g, i, none⟩ = some (.pointer (some ⟨(X i).p, 0, none⟩))) := hc
  have HD : Hid (∀ i, i < n → w.cell? ⟨(X i).p, 0, none⟩ = some (.int .i64 (D i).addr)) := fun i hi => (h.dev i hi).c0
  clear h hc
  go_enter Try.func33, Try.ntmps33
  go_wp2_with fail
  go_loopw [6, 12] (fun _ i wr => ∃ k : Nat, k ≤ n ∧ i = .int .i64 k ∧ wr = w ∧ Hid (∀ j, j < k → (D j).addr ≠ addr)) (fun _ i _ => n - (intOf i).toNat)
  case atStart => exact ⟨0, Nat.zero_le _, rfl, rfl, fun j hj => absurd hj (Nat.not_lt_zero _)⟩
  case round =>
    obtain ⟨k, hk, rfl, hw, hR⟩ := hrel
    subst hw
    by_cases hlt : k < n
    · have hlti : (k : Int) < (n : Int) := by omega
      obtain ⟨g, rfl, k1⟩ := HC.out k hlt
      have k2 := HD.out k hlt
      by_cases ha : (D k).addr = addr
      · have e : Hid (fnd D n addr = some k) := fnd_some hR.out ha hlt
        rw [ha] at k2
        clear ha
        go_wp2_with fail
        go_ret
        rw [e.out]
        exact ⟨rfl, rfl⟩
      · have ha2 : ((D k).addr == addr) = false := by simpa using ha
        have R2 : Hid (∀ j, j < k + 1 → (D j).addr ≠ addr) := fun j hj => by
          by_cases ej : j = k
          · rw [ej]; exact ha
          · exact hR.out j (by omega)
        generalize (D k).addr = ad at *
        go_wp2_with fail
        go_roundw
        case measure => simp [intOf]; omega
        case rel => exact ⟨k + 1, by omega, by simp, trivial, R2⟩
    · have hlti : ¬ (k : Int) < (n : Int) := by omega
      have e : Hid (fnd D n addr = none) := fnd_none (fun j hj => hR.out j (by omega))
      go_wp2_with fail
      go_ret
      rw [e.out]
      exact ⟨rfl, rfl⟩
end
end Go.Proofs.Ytfgljkeohoffiaa
