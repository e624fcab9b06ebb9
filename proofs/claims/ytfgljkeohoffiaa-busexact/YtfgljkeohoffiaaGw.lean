/- BusRegisters: what its transactions come to. -/
import Derived.Test.YtfgljkeohoffiaaGv
namespace Go.Proofs.Ytfgljkeohoffiaa
open Go.RowKit Go.Conc
/-- one device, no fault, nothing measured -/
structure RG (s : Bs) (m : Md) : Prop where
  n1 : s.n = 1
  F0 : s.F = []
  ad : (s.D 0).addr = m.addr
  id : (s.D 0).id = m.id
  q0 : (s.D 0).q = []
theorem RG.fnd {s : Bs} {m : Md} (h : RG s m) : fnd s.D s.n m.addr = some 0 := by
  rw [h.n1]
  exact fnd_some (fun j hj => absurd hj (Nat.not_lt_zero _)) h.ad (by omega)
theorem RG.new (m : Md) : RG (newB [m] []) m := ⟨rfl, rfl, rfl, rfl, rfl⟩
theorem turn_keep (d : Dv) (b : Bool) : (d.turn b).addr = d.addr ∧ (d.turn b).id = d.id ∧ (d.turn b).on = b ∧ (d.turn b).per = d.per ∧ (d.q = [] → (d.turn b).q = []) := by
  unfold Dv.turn
  cases b with
  | false => exact ⟨rfl, rfl, rfl, rfl, fun _ => rfl⟩
  | true =>
    rw [if_pos rfl]
    split
    · exact ⟨rfl, rfl, by assumption, rfl, id⟩
    · exact ⟨rfl, rfl, rfl, rfl, id⟩
section
variable {s : Bs} {m : Md}
theorem RG.put (h : RG s m) {d : Dv} (k : Int) (h1 : d.addr = m.addr) (h2 : d.id = m.id) (h3 : d.q = []) : RG { s with cnt := k, D := upd s.D 0 d } m :=
  ⟨h.n1, h.F0, by show (upd s.D 0 d 0).addr = _; rw [upd_at]; exact h1, by show (upd s.D 0 d 0).id = _; rw [upd_at]; exact h2, by show (upd s.D 0 d 0).q = _; rw [upd_at]; exact h3⟩
/-- on or off, and a period -/
theorem RG.write (h : RG s m) (on n : Nat) : (doB s m.addr 1 [on, n] 0).1 = 1 ∧ (doB s m.addr 1 [on, n] 0).2.1 = [] ∧ RG (doB s m.addr 1 [on, n] 0).2.2 m ∧ ((doB s m.addr 1 [on, n] 0).2.2.D 0).on = decide (on % 2 = 1) ∧ ((doB s m.addr 1 [on, n] 0).2.2.D 0).per = if n = 0 then 256 else n := by
  have e : (s.D 0).does 1 [on, n] 0 = { (s.D 0).turn (decide (on % 2 = 1)) with per := if n = 0 then 256 else n } := rfl
  rw [do_plain s h.F0 h.fnd, e]
  obtain ⟨t1, t2, t3, t4, t5⟩ := turn_keep (s.D 0) (decide (on % 2 = 1))
  refine ⟨rfl, rfl, h.put _ (t1.trans h.ad) (t2.trans h.id) (t5 h.q0), ?_, ?_⟩
  · exact (congrArg Dv.on (upd_at s.D 0 _)).trans t3
  · exact congrArg Dv.per (upd_at s.D 0 _)
/-- the four registers -/
theorem RG.read (h : RG s m) (hid : 0 ≤ m.id) : (doB s m.addr 0 [] 4).1 = 1 ∧ (doB s m.addr 0 [] 4).2.1 = [m.id, if (s.D 0).on = true then 1 else 0, ((s.D 0).per % 256 : Nat), 0] ∧ RG (doB s m.addr 0 [] 4).2.2 m ∧ (doB s m.addr 0 [] 4).2.2.D 0 = s.D 0 := by
  have e : (s.D 0).does 0 [] 4 = s.D 0 := rfl
  have e2 : (s.D 0).tells 0 [] 4 = [(((s.D 0).id.toNat : Nat) : Int), ((if (s.D 0).on = true then 1 else 0 : Nat) : Int), ((s.D 0).per % 256 : Nat), ((s.D 0).q.length : Nat)] := rfl
  rw [do_plain s h.F0 h.fnd, e, e2]
  refine ⟨rfl, ?_, h.put _ h.ad h.id h.q0, upd_at s.D 0 (s.D 0)⟩
  rw [h.q0, h.id, show ((m.id.toNat : Nat) : Int) = m.id by omega]
  split <;> rfl
theorem RG.reset (h : RG s m) : (doB s m.addr 5 [182] 0).1 = 1 ∧ (doB s m.addr 5 [182] 0).2.1 = [] ∧ RG (doB s m.addr 5 [182] 0).2.2 m ∧ ((doB s m.addr 5 [182] 0).2.2.D 0).on = false ∧ ((doB s m.addr 5 [182] 0).2.2.D 0).per = 1 := by
  have e : (s.D 0).does 5 [182] 0 = { (s.D 0).turn false with per := 1 } := rfl
  rw [do_plain s h.F0 h.fnd, e]
  obtain ⟨t1, t2, t3, t4, t5⟩ := turn_keep (s.D 0) false
  refine ⟨rfl, rfl, h.put _ (t1.trans h.ad) (t2.trans h.id) (t5 h.q0), ?_, ?_⟩
  · exact (congrArg Dv.on (upd_at s.D 0 _)).trans t3
  · exact congrArg Dv.per (upd_at s.D 0 _)
end
section
variable {w0 wr : World} {y : BA} {s : Bs} {m : Md}
theorem lit_br {w : World} (l : List Nat) (h : ∀ i, i < l.length → gb l i ≤ 255) : BR (w.alloc (.cells (bv (l.map fun (b : Nat) => (b : Int))).toArray Eb)) (some ⟨w.heap.size, 0, none⟩) l := fun i hi => by
  refine ⟨h i hi, w.heap.size, 0, rfl, ?_⟩
  unfold World.cell?
  rw [heap_alloc_new]
  simp [bv, gb, hi]
theorem Rg.fresh (h : Rg w0 wr y s) : ∀ k off, (some ⟨wr.heap.size, 0, none⟩ : Option Addr) = some ⟨k, off, none⟩ → ¬ FB y k := fun k off e o => by
  cases e
  have := h.b.lt _ o
  omega
theorem hw_any (h : Rg w0 wr y s) (hg : RG s m) (hm : okM m = true) (on n : Nat) (h1 : on ≤ 1) (h2 : n ≤ 255) :
    Calls Try.prog 16 #[.pointer (some ⟨y.b, 0, none⟩), txv m.addr 1 (some ⟨wr.heap.size, 0, none⟩) 2 2 0] (wr.alloc (.cells #[.int .u8 on, .int .u8 n] Eb)) fun e w' => ∃ a' c', e = .returned (.tuple #[ansV 1 (.slice a' 0 c'), .int .i64 0]) ∧ Hid (∃ s', Rg w0 w' y s' ∧ RG s' m ∧ (s'.D 0).on = decide (on % 2 = 1) ∧ (s'.D 0).per = if n = 0 then 256 else n) := by
  have ha : inn m.addr 0 127 = true := by
    unfold okM at hm
    simp only [Bool.and_eq_true] at hm
    exact hm.1.1
  have x : Ext wr (wr.alloc (.cells #[.int .u8 on, .int .u8 n] Eb)) := (Ext.refl wr).alloc _
  have hb : BR (wr.alloc (.cells #[.int .u8 on, .int .u8 n] Eb)) (some ⟨wr.heap.size, 0, none⟩) [on, n] := lit_br [on, n] (fun i hi => by
    match i, hi with
    | 0, _ => show on ≤ 255; omega
    | 1, _ => exact h2
    | i + 2, h => simp at h; omega)
  obtain ⟨r1, r2, r3, r4, r5⟩ := hg.write on n
  refine ((h.ext x).do m.addr 1 (some ⟨wr.heap.size, 0, none⟩) [on, n] 2 0 (by simp [maxLen]) (by unfold okT; rw [ha]; rfl) hb (fun k off _ e => h.fresh k off e) (no_flt s hg.F0).2).mono ?_
  rintro e w' ⟨a', c', rfl, q1, q2⟩
  rw [r1, r2]
  exact ⟨a', c', rfl, _, q2, r3, r4, r5⟩
theorem hr_any (h : Rg w0 wr y s) (hg : RG s m) (hm : okM m = true) :
    Calls Try.prog 16 #[.pointer (some ⟨y.b, 0, none⟩), txv m.addr 0 none 0 0 4] wr fun e w' => ∃ a' c', e = .returned (.tuple #[ansV 1 (.slice a' 4 c'), .int .i64 0]) ∧ Hid (RdB w' (.slice a' 4 c') [m.id, if (s.D 0).on = true then 1 else 0, ((s.D 0).per % 256 : Nat), 0] ∧ ∃ s', Rg w0 w' y s' ∧ RG s' m ∧ s'.D 0 = s.D 0) := by
  have ha : inn m.addr 0 127 = true ∧ inn m.id 0 255 = true := by
    unfold okM at hm
    simp only [Bool.and_eq_true] at hm
    exact hm.1
  obtain ⟨r1, r2, r3, r4⟩ := hg.read (inn_iff.1 ha.2).1
  refine (h.do m.addr 0 none [] 0 4 (by simp [maxLen]) (by unfold okT; rw [ha.1]; rfl) (br_nil _ _) (fun k off h0 => by simp at h0) (no_flt s hg.F0).2).mono ?_
  rintro e w' ⟨a', c', rfl, q1, q2⟩
  rw [r2] at q1
  rw [r1, r2]
  exact ⟨a', c', rfl, q1, _, q2, r3, r4⟩
theorem hs_any (h : Rg w0 wr y s) (hg : RG s m) (hm : okM m = true) :
    Calls Try.prog 16 #[.pointer (some ⟨y.b, 0, none⟩), txv m.addr 5 (some ⟨wr.heap.size, 0, none⟩) 1 1 0] (wr.alloc (.cells #[.int .u8 182] Eb)) fun e w' => ∃ a' c', e = .returned (.tuple #[ansV 1 (.slice a' 0 c'), .int .i64 0]) ∧ Hid (∃ s', Rg w0 w' y s' ∧ RG s' m ∧ (s'.D 0).on = false ∧ (s'.D 0).per = 1) := by
  have ha : inn m.addr 0 127 = true := by
    unfold okM at hm
    simp only [Bool.and_eq_true] at hm
    exact hm.1.1
  have x : Ext wr (wr.alloc (.cells #[.int .u8 182] Eb)) := (Ext.refl wr).alloc _
  have hb : BR (wr.alloc (.cells #[.int .u8 182] Eb)) (some ⟨wr.heap.size, 0, none⟩) [182] := lit_br [182] (fun i hi => by
    match i, hi with
    | 0, _ => show 182 ≤ 255; omega
    | i + 1, h => simp at h)
  obtain ⟨r1, r2, r3, r4, r5⟩ := hg.reset
  refine ((h.ext x).do m.addr 5 (some ⟨wr.heap.size, 0, none⟩) [182] 1 0 (by simp [maxLen]) (by unfold okT; rw [ha]; rfl) hb (fun k off _ e => h.fresh k off e) (no_flt s hg.F0).2).mono ?_
  rintro e w' ⟨a', c', rfl, q1, q2⟩
  rw [r1, r2]
  exact ⟨a', c', rfl, _, q2, r3, r4, r5⟩
theorem hd_any (h : Rg w0 wr y s) (hg : RG s m) : Calls Try.prog 14 #[.pointer (some ⟨y.b, 0, none⟩), .int .i64 m.addr] wr fun e w' => e = .returned (.tuple #[(s.D 0).told, .int .i64 0]) ∧ Rg w0 w' y s ∧ Ext wr w' := by
  refine (dev_any wr h.b m.addr).mono ?_
  rintro e w' ⟨rfl, x⟩
  refine ⟨?_, h.ext x, x⟩
  unfold devV
  rw [hg.fnd]
end
end Go.Proofs.Ytfgljkeohoffiaa
