/- The reference's bus beside what else turns; Dev. -/
import Derived.Test.YtfgljkeohoffiaaZj
namespace Go.Proofs.Ytfgljkeohoffiaa
open Go.RowKit Go.Conc
/-- what the reference's bus reads -/
def RBl (x : RA) (own : Nat → Prop) (s : Bs) (k : Nat) : Prop := own k ∨ (∃ i off, i < s.n ∧ 0 < (s.D i).list.length ∧ x.A i = some ⟨k, off, none⟩) ∨ (0 < x.F.length ∧ ∃ off, x.fa = some ⟨k, off, none⟩)
section
variable {w w' : World} {x : RA} {own : Nat → Prop} {s : Bs}
theorem RB.tn {o2 : Nat → Prop} (h : RB w x own s) (t : Tn o2 w w') (ho : ∀ k, RBl x own s k → ¬ o2 k) : RB w' x own s := by
  obtain ⟨Q, QC, h1, h2, h3⟩ := h.dv
  have hb := ho x.b (.inl h.ob)
  have hbl := h.lt x.b h.ob
  refine ⟨t.keepc hb h.c0, t.keepc hb h.c1, t.keepc hb h.c2, fun j => frozen_tn t hbl hb j (h.f j), h.d, h.bg, ⟨Q, QC, fun i hi => (h1 i hi).tn t (fun k hk => ?_), h2, h3⟩, h.la, fun i hi => ?_, h.fo, h.ob, h.og, fun k o => Nat.lt_of_lt_of_le (h.lt k o) t.size, h.n8, h.fl, h.tk⟩
  · rcases hk with e | e | ⟨e, off, e2⟩
    · rw [e]; exact ho _ (.inl (h.og (by omega)))
    · exact ho k (.inl (h2 i k hi e).1)
    · exact ho k (.inr (.inl ⟨i, off, hi, e, e2⟩))
  · obtain ⟨b, off, e, hc⟩ := h.fs i hi
    exact ⟨b, off, e, hc.tn t (ho b (.inr (.inr ⟨by omega, off, e⟩)))⟩
theorem RB.ext (h : RB w x own s) (e : Ext w w') : RB w' x own s := h.tn (o2 := fun _ => False) (Tn.of_ext e) (fun _ _ k => k)
/-- what the reference's Dev tells -/
def rdevV (s : Bs) (addr : Int) : Value := match fnd s.D s.n addr with
  | some i => .tuple #[(s.D i).told, .bool true]
  | none => .tuple #[noDev, .bool false]
set_option maxRecDepth 20000 in
set_option maxHeartbeats 4000000 in
theorem rdev_any (h : RB w x own s) (addr : Int) : Calls Try.prog 15 #[.pointer (some ⟨x.b, 0, none⟩), .int .i64 addr] w fun e w' => e = .returned (rdevV s addr) ∧ Ext w w' := by
  have hx : Ext w (w.alloc (.cells #[.int .i64 0, .bool false, .int .i64 0, .int .i64 0, .int .i64 0, .int .i64 0] 51)) := (Ext.refl w).alloc _
  have HD := rfind_any (h.ext hx) addr
  cases hf : fnd s.D s.n addr with
  | none =>
    rw [hf] at HD
    have e : Hid (rdevV s addr = .tuple #[noDev, .bool false]) := by show _ = _; unfold rdevV; rw [hf]
    simp only [fnum] at HD
    clear h
    have HX : Hid (Ext w (w.alloc (.cells #[.int .i64 0, .bool false, .int .i64 0, .int .i64 0, .int .i64 0, .int .i64 0] 51))) := hx
    clear hx
    go_enter Try.func15, Try.ntmps15
    go_wp2_with (go_at_call 35; refine HD.mono ?_; rintro e w1 ⟨rfl, rfl⟩)
    refine bodyPost_ret (v := .tuple #[noDev, .bool false]) (by simp [results, Try.results15, go_sem, noDev]) rfl ⟨by rw [e.out], ?_⟩
    first | exact HX.out | exact (((((HX.out.new (Nat.le_refl _) _ _).new (Nat.le_refl _) _ _).new (Nat.le_refl _) _ _).new (Nat.le_refl _) _ _).new (Nat.le_refl _) _ _).new (Nat.le_refl _) _ _
  | some i =>
    rw [hf] at HD
    obtain ⟨hi, had⟩ := fnd_lt hf
    have e : Hid (rdevV s addr = .tuple #[(s.D i).told, .bool true]) := by show _ = _; unfold rdevV; rw [hf]
    simp only [fnum] at HD
    have h1 := h.ext hx
    obtain ⟨Q, QC, hd, _, _⟩ := h1.dv
    have D := hd i hi
    have c0 := h1.c0
    rw [h1.d (by omega)] at c0
    have h8 := h1.n8
    have hii : (i : Int) < (s.n : Int) := by omega
    have hge : ¬ (i : Int) < 0 := by omega
    obtain ⟨d0, d1, d2, d3, d4, d5, d6, d7, d8, _, _, _, _, _, _, _, _, _, _⟩ := D
    rw [had] at d0
    generalize hdd : s.D i = dd at *
    have HDD : Hid (dd.addr = addr) := had
    have HX : Hid (Ext w (w.alloc (.cells #[.int .i64 0, .bool false, .int .i64 0, .int .i64 0, .int .i64 0, .int .i64 0] 51))) := hx
    clear h h1 hd hf hdd had hx
    go_enter Try.func15, Try.ntmps15
    go_upto_region 2 with (go_at_call 35; refine HD.mono ?_; rintro e w1 ⟨rfl, rfl⟩)
    go_wp2_with fail
    exact bodyPost_ret (v := .tuple #[dd.told, .bool true]) (by simp [results, Try.results15, go_sem, Dv.told, HDD.out]) rfl ⟨by rw [e.out], ((Ext.refl w).alloc _).alloc _⟩
end
end Go.Proofs.Ytfgljkeohoffiaa
