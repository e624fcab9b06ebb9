/- drv: the reference's May and Set. -/
import Derived.Test.YtdfhhfpfnkjbnaaDc
namespace Go.Proofs.Ytdfhhfpfnkjbnaa
open Go.RowKit Go.Conc
theorem okD_iff {d : Dr} : okD d = true ↔ (0 ≤ d.addr ∧ d.addr ≤ 127) ∧ (0 ≤ d.id ∧ d.id ≤ 255) ∧ (1 ≤ d.per ∧ d.per ≤ 250) ∧ (0 ≤ d.st ∧ d.st ≤ 8) ∧ (0 ≤ d.fails ∧ d.fails ≤ 2) ∧ okL d = true ∧ (0 ≤ d.bad ∧ d.bad ≤ 1099511627776) := by
  unfold okD
  simp only [Bool.and_eq_true, inn_iff]
  constructor
  · rintro ⟨⟨⟨⟨⟨⟨h1, h2⟩, h3⟩, h4⟩, h5⟩, h6⟩, h7⟩
    exact ⟨h1, h2, h3, h4, h5, h6, h7⟩
  · rintro ⟨h1, h2, h3, h4, h5, h6, h7⟩
    exact ⟨⟨⟨⟨⟨⟨h1, h2⟩, h3⟩, h4⟩, h5⟩, h6⟩, h7⟩
theorem okD_not {d : Dr} (h : ¬ ((0 ≤ d.addr ∧ d.addr ≤ 127) ∧ (0 ≤ d.id ∧ d.id ≤ 255) ∧ (1 ≤ d.per ∧ d.per ≤ 250) ∧ (0 ≤ d.st ∧ d.st ≤ 8) ∧ (0 ≤ d.fails ∧ d.fails ≤ 2) ∧ okL d = true ∧ (0 ≤ d.bad ∧ d.bad ≤ 1099511627776))) : okD d = false := by
  cases e : okD d
  · rfl
  · exact absurd (okD_iff.1 e) h
set_option maxRecDepth 20000 in
set_option maxHeartbeats 8000000 in
theorem mayd_any (d : Dr) (w : World) : Calls Try.prog 10 #[drv d] w fun e w' => e = .returned (.bool (okD d)) ∧ Ext w w' := by
  obtain ⟨addr, id, want, per, st, fails, tried, left, bad⟩ := d
  have hx : Ext w (w.alloc (dro ⟨addr, id, want, per, st, fails, tried, left, bad⟩)) := (Ext.refl w).alloc _
  by_cases h0 : addr < 0
  · have e : Hid (okD ⟨addr, id, want, per, st, fails, tried, left, bad⟩ = false) := okD_not fun h => by have h6 := h.1; simp only at h6; omega
    go_enter Try.func10, Try.ntmps10
    go_wp2
    go_ret
    rw [e.out]
    exact ⟨rfl, hx⟩
  by_cases h1 : 127 < addr
  · have e : Hid (okD ⟨addr, id, want, per, st, fails, tried, left, bad⟩ = false) := okD_not fun h => by have h6 := h.1; simp only at h6; omega
    go_enter Try.func10, Try.ntmps10
    go_wp2
    go_ret
    rw [e.out]
    exact ⟨rfl, hx⟩
  by_cases h2 : id < 0
  · have e : Hid (okD ⟨addr, id, want, per, st, fails, tried, left, bad⟩ = false) := okD_not fun h => by have h6 := h.2.1; simp only at h6; omega
    go_enter Try.func10, Try.ntmps10
    go_wp2
    go_ret
    rw [e.out]
    exact ⟨rfl, hx⟩
  by_cases h3 : 255 < id
  · have e : Hid (okD ⟨addr, id, want, per, st, fails, tried, left, bad⟩ = false) := okD_not fun h => by have h6 := h.2.1; simp only at h6; omega
    go_enter Try.func10, Try.ntmps10
    go_wp2
    go_ret
    rw [e.out]
    exact ⟨rfl, hx⟩
  by_cases h4 : per < 1
  · have e : Hid (okD ⟨addr, id, want, per, st, fails, tried, left, bad⟩ = false) := okD_not fun h => by have h6 := h.2.2.1; simp only at h6; omega
    go_enter Try.func10, Try.ntmps10
    go_wp2
    go_ret
    rw [e.out]
    exact ⟨rfl, hx⟩
  by_cases h5 : 250 < per
  · have e : Hid (okD ⟨addr, id, want, per, st, fails, tried, left, bad⟩ = false) := okD_not fun h => by have h6 := h.2.2.1; simp only at h6; omega
    go_enter Try.func10, Try.ntmps10
    go_wp2
    go_ret
    rw [e.out]
    exact ⟨rfl, hx⟩
  by_cases h6 : st < 0
  · have e : Hid (okD ⟨addr, id, want, per, st, fails, tried, left, bad⟩ = false) := okD_not fun h => by have h6 := h.2.2.2.1; simp only at h6; omega
    go_enter Try.func10, Try.ntmps10
    go_wp2
    go_ret
    rw [e.out]
    exact ⟨rfl, hx⟩
  by_cases h7 : 8 < st
  · have e : Hid (okD ⟨addr, id, want, per, st, fails, tried, left, bad⟩ = false) := okD_not fun h => by have h6 := h.2.2.2.1; simp only at h6; omega
    go_enter Try.func10, Try.ntmps10
    go_wp2
    go_ret
    rw [e.out]
    exact ⟨rfl, hx⟩
  by_cases h8 : fails < 0
  · have e : Hid (okD ⟨addr, id, want, per, st, fails, tried, left, bad⟩ = false) := okD_not fun h => by have h6 := h.2.2.2.2.1; simp only at h6; omega
    go_enter Try.func10, Try.ntmps10
    go_wp2
    go_ret
    rw [e.out]
    exact ⟨rfl, hx⟩
  by_cases h9 : 3 ≤ fails
  · have e : Hid (okD ⟨addr, id, want, per, st, fails, tried, left, bad⟩ = false) := okD_not fun h => by have h6 := h.2.2.2.2.1; simp only at h6; omega
    go_enter Try.func10, Try.ntmps10
    go_wp2
    go_ret
    rw [e.out]
    exact ⟨rfl, hx⟩
  by_cases h10 : bad < 0
  · have e : Hid (okD ⟨addr, id, want, per, st, fails, tried, left, bad⟩ = false) := okD_not fun h => by have h6 := h.2.2.2.2.2.2; simp only at h6; omega
    go_enter Try.func10, Try.ntmps10
    go_wp2
    go_ret
    rw [e.out]
    exact ⟨rfl, hx⟩
  by_cases h11 : 1099511627776 < bad
  · have e : Hid (okD ⟨addr, id, want, per, st, fails, tried, left, bad⟩ = false) := okD_not fun h => by have h6 := h.2.2.2.2.2.2; simp only at h6; omega
    go_enter Try.func10, Try.ntmps10
    go_wp2
    go_ret
    rw [e.out]
    exact ⟨rfl, hx⟩
  by_cases h5 : st = 5
  · subst h5
    by_cases l1 : (1 : Int) ≤ left
    · by_cases l2 : left ≤ (16 : Int)
      · have e : Hid (okD ⟨addr, id, want, per, 5, fails, tried, left, bad⟩ = true) := okD_iff.2 ⟨⟨by dsimp only; omega, by dsimp only; omega⟩, ⟨by dsimp only; omega, by dsimp only; omega⟩, ⟨by dsimp only; omega, by dsimp only; omega⟩, ⟨by dsimp only; omega, by dsimp only; omega⟩, ⟨by dsimp only; omega, by dsimp only; omega⟩, inn_iff.2 ⟨l1, l2⟩, ⟨by dsimp only; omega, by dsimp only; omega⟩⟩
        go_enter Try.func10, Try.ntmps10
        go_wp2
        go_ret
        rw [e.out]
        exact ⟨rfl, hx⟩
      · have e : Hid (okD ⟨addr, id, want, per, 5, fails, tried, left, bad⟩ = false) := okD_not fun h => l2 (inn_iff.1 h.2.2.2.2.2.1).2
        go_enter Try.func10, Try.ntmps10
        go_wp2
        go_ret
        rw [e.out]
        exact ⟨rfl, hx⟩
    · have e : Hid (okD ⟨addr, id, want, per, 5, fails, tried, left, bad⟩ = false) := okD_not fun h => l1 (inn_iff.1 h.2.2.2.2.2.1).1
      go_enter Try.func10, Try.ntmps10
      go_wp2
      go_ret
      rw [e.out]
      exact ⟨rfl, hx⟩
  · have h5b : (st == 5) = false := beq_eq_false_iff_ne.2 h5
    have hl : Hid (okL ⟨addr, id, want, per, st, fails, tried, left, bad⟩ = decide (left = 0)) := by show _ = _; unfold okL; rw [if_neg h5]
    by_cases l0 : left = 0
    · have e : Hid (okD ⟨addr, id, want, per, st, fails, tried, left, bad⟩ = true) := okD_iff.2 ⟨⟨by dsimp only; omega, by dsimp only; omega⟩, ⟨by dsimp only; omega, by dsimp only; omega⟩, ⟨by dsimp only; omega, by dsimp only; omega⟩, ⟨by dsimp only; omega, by dsimp only; omega⟩, ⟨by dsimp only; omega, by dsimp only; omega⟩, by rw [hl.out, l0]; rfl, ⟨by dsimp only; omega, by dsimp only; omega⟩⟩
      subst l0
      go_enter Try.func10, Try.ntmps10
      go_wp2
      go_ret
      rw [e.out]
      exact ⟨rfl, hx⟩
    · have e : Hid (okD ⟨addr, id, want, per, st, fails, tried, left, bad⟩ = false) := okD_not fun h => by have h6 := h.2.2.2.2.2.1; rw [hl.out] at h6; exact l0 (of_decide_eq_true h6)
      have l0b : (left == 0) = false := beq_eq_false_iff_ne.2 l0
      go_enter Try.func10, Try.ntmps10
      go_wp2
      go_ret
      rw [e.out]
      exact ⟨rfl, hx⟩
set_option maxRecDepth 20000 in
set_option maxHeartbeats 8000000 in
theorem refset_any (d : Dr) (hst : inn d.st 0 8 = true) (want : Bool) (per : Int) (w : World) : Calls Try.prog 15 #[drv d, .bool want, .int .i64 per] w fun e w' => e = .returned (drv (setD d want per)) ∧ Ext w w' := by
  obtain ⟨addr, id, wa, p0, st, fails, tried, left, bad⟩ := d
  simp only at hst
  have hst := inn_iff.1 hst
  have hc : st = 0 ∨ st = 1 ∨ st = 2 ∨ st = 3 ∨ st = 4 ∨ st = 5 ∨ st = 6 ∨ st = 7 ∨ st = 8 := by omega
  clear hst
  cases want
  · rcases hc with rfl | rfl | rfl | rfl | rfl | rfl | rfl | rfl | rfl
    · have e : Hid (setD ⟨addr, id, wa, p0, 0, fails, tried, left, bad⟩ false per = ⟨addr, id, false, per, 0, fails, tried, left, bad⟩) := rfl
      go_enter Try.func15, Try.ntmps15
      go_wp2
      exact bodyPost_ret (v := drv ⟨addr, id, false, per, 0, fails, tried, left, bad⟩) (by simp [results, Try.results15, go_sem]) rfl ⟨by rw [e.out], ((Ext.refl w).alloc _).alloc _⟩
    · have e : Hid (setD ⟨addr, id, wa, p0, 1, fails, tried, left, bad⟩ false per = ⟨addr, id, false, per, 6, 0, tried, 0, bad⟩) := rfl
      go_enter Try.func15, Try.ntmps15
      go_wp2
      exact bodyPost_ret (v := drv ⟨addr, id, false, per, 6, 0, tried, 0, bad⟩) (by simp [results, Try.results15, go_sem]) rfl ⟨by rw [e.out], ((Ext.refl w).alloc _).alloc _⟩
    · have e : Hid (setD ⟨addr, id, wa, p0, 2, fails, tried, left, bad⟩ false per = ⟨addr, id, false, per, 6, 0, tried, 0, bad⟩) := rfl
      go_enter Try.func15, Try.ntmps15
      go_wp2
      exact bodyPost_ret (v := drv ⟨addr, id, false, per, 6, 0, tried, 0, bad⟩) (by simp [results, Try.results15, go_sem]) rfl ⟨by rw [e.out], ((Ext.refl w).alloc _).alloc _⟩
    · have e : Hid (setD ⟨addr, id, wa, p0, 3, fails, tried, left, bad⟩ false per = ⟨addr, id, false, per, 6, 0, tried, 0, bad⟩) := rfl
      go_enter Try.func15, Try.ntmps15
      go_wp2
      exact bodyPost_ret (v := drv ⟨addr, id, false, per, 6, 0, tried, 0, bad⟩) (by simp [results, Try.results15, go_sem]) rfl ⟨by rw [e.out], ((Ext.refl w).alloc _).alloc _⟩
    · have e : Hid (setD ⟨addr, id, wa, p0, 4, fails, tried, left, bad⟩ false per = ⟨addr, id, false, per, 6, 0, tried, 0, bad⟩) := rfl
      go_enter Try.func15, Try.ntmps15
      go_wp2
      exact bodyPost_ret (v := drv ⟨addr, id, false, per, 6, 0, tried, 0, bad⟩) (by simp [results, Try.results15, go_sem]) rfl ⟨by rw [e.out], ((Ext.refl w).alloc _).alloc _⟩
    · have e : Hid (setD ⟨addr, id, wa, p0, 5, fails, tried, left, bad⟩ false per = ⟨addr, id, false, per, 6, 0, tried, 0, bad⟩) := rfl
      go_enter Try.func15, Try.ntmps15
      go_wp2
      exact bodyPost_ret (v := drv ⟨addr, id, false, per, 6, 0, tried, 0, bad⟩) (by simp [results, Try.results15, go_sem]) rfl ⟨by rw [e.out], ((Ext.refl w).alloc _).alloc _⟩
    · have e : Hid (setD ⟨addr, id, wa, p0, 6, fails, tried, left, bad⟩ false per = ⟨addr, id, false, per, 6, fails, tried, left, bad⟩) := rfl
      go_enter Try.func15, Try.ntmps15
      go_wp2
      exact bodyPost_ret (v := drv ⟨addr, id, false, per, 6, fails, tried, left, bad⟩) (by simp [results, Try.results15, go_sem]) rfl ⟨by rw [e.out], ((Ext.refl w).alloc _).alloc _⟩
    · have e : Hid (setD ⟨addr, id, wa, p0, 7, fails, tried, left, bad⟩ false per = ⟨addr, id, false, per, 7, fails, tried, left, bad⟩) := rfl
      go_enter Try.func15, Try.ntmps15
      go_wp2
      exact bodyPost_ret (v := drv ⟨addr, id, false, per, 7, fails, tried, left, bad⟩) (by simp [results, Try.results15, go_sem]) rfl ⟨by rw [e.out], ((Ext.refl w).alloc _).alloc _⟩
    · have e : Hid (setD ⟨addr, id, wa, p0, 8, fails, tried, left, bad⟩ false per = ⟨addr, id, false, per, 8, fails, tried, left, bad⟩) := rfl
      go_enter Try.func15, Try.ntmps15
      go_wp2
      exact bodyPost_ret (v := drv ⟨addr, id, false, per, 8, fails, tried, left, bad⟩) (by simp [results, Try.results15, go_sem]) rfl ⟨by rw [e.out], ((Ext.refl w).alloc _).alloc _⟩
  · by_cases hp : p0 = per
    · subst hp
      rcases hc with rfl | rfl | rfl | rfl | rfl | rfl | rfl | rfl | rfl
      · have e : Hid (setD ⟨addr, id, wa, p0, 0, fails, tried, left, bad⟩ true p0 = ⟨addr, id, true, p0, 1, 0, tried, 0, bad⟩) := by show _ = _; unfold setD; rw [show (p0 != p0) = false by simp]; rfl
        go_enter Try.func15, Try.ntmps15
        go_wp2
        exact bodyPost_ret (v := drv ⟨addr, id, true, p0, 1, 0, tried, 0, bad⟩) (by simp [results, Try.results15, go_sem]) rfl ⟨by rw [e.out], ((Ext.refl w).alloc _).alloc _⟩
      · have e : Hid (setD ⟨addr, id, wa, p0, 1, fails, tried, left, bad⟩ true p0 = ⟨addr, id, true, p0, 1, fails, tried, left, bad⟩) := by show _ = _; unfold setD; rw [show (p0 != p0) = false by simp]; rfl
        go_enter Try.func15, Try.ntmps15
        go_wp2
        exact bodyPost_ret (v := drv ⟨addr, id, true, p0, 1, fails, tried, left, bad⟩) (by simp [results, Try.results15, go_sem]) rfl ⟨by rw [e.out], ((Ext.refl w).alloc _).alloc _⟩
      · have e : Hid (setD ⟨addr, id, wa, p0, 2, fails, tried, left, bad⟩ true p0 = ⟨addr, id, true, p0, 2, fails, tried, left, bad⟩) := by show _ = _; unfold setD; rw [show (p0 != p0) = false by simp]; rfl
        go_enter Try.func15, Try.ntmps15
        go_wp2
        exact bodyPost_ret (v := drv ⟨addr, id, true, p0, 2, fails, tried, left, bad⟩) (by simp [results, Try.results15, go_sem]) rfl ⟨by rw [e.out], ((Ext.refl w).alloc _).alloc _⟩
      · have e : Hid (setD ⟨addr, id, wa, p0, 3, fails, tried, left, bad⟩ true p0 = ⟨addr, id, true, p0, 3, fails, tried, left, bad⟩) := by show _ = _; unfold setD; rw [show (p0 != p0) = false by simp]; rfl
        go_enter Try.func15, Try.ntmps15
        go_wp2
        exact bodyPost_ret (v := drv ⟨addr, id, true, p0, 3, fails, tried, left, bad⟩) (by simp [results, Try.results15, go_sem]) rfl ⟨by rw [e.out], ((Ext.refl w).alloc _).alloc _⟩
      · have e : Hid (setD ⟨addr, id, wa, p0, 4, fails, tried, left, bad⟩ true p0 = ⟨addr, id, true, p0, 4, fails, tried, left, bad⟩) := by show _ = _; unfold setD; rw [show (p0 != p0) = false by simp]; rfl
        go_enter Try.func15, Try.ntmps15
        go_wp2
        exact bodyPost_ret (v := drv ⟨addr, id, true, p0, 4, fails, tried, left, bad⟩) (by simp [results, Try.results15, go_sem]) rfl ⟨by rw [e.out], ((Ext.refl w).alloc _).alloc _⟩
      · have e : Hid (setD ⟨addr, id, wa, p0, 5, fails, tried, left, bad⟩ true p0 = ⟨addr, id, true, p0, 5, fails, tried, left, bad⟩) := by show _ = _; unfold setD; rw [show (p0 != p0) = false by simp]; rfl
        go_enter Try.func15, Try.ntmps15
        go_wp2
        exact bodyPost_ret (v := drv ⟨addr, id, true, p0, 5, fails, tried, left, bad⟩) (by simp [results, Try.results15, go_sem]) rfl ⟨by rw [e.out], ((Ext.refl w).alloc _).alloc _⟩
      · have e : Hid (setD ⟨addr, id, wa, p0, 6, fails, tried, left, bad⟩ true p0 = ⟨addr, id, true, p0, 1, 0, tried, 0, bad⟩) := by show _ = _; unfold setD; rw [show (p0 != p0) = false by simp]; rfl
        go_enter Try.func15, Try.ntmps15
        go_wp2
        exact bodyPost_ret (v := drv ⟨addr, id, true, p0, 1, 0, tried, 0, bad⟩) (by simp [results, Try.results15, go_sem]) rfl ⟨by rw [e.out], ((Ext.refl w).alloc _).alloc _⟩
      · have e : Hid (setD ⟨addr, id, wa, p0, 7, fails, tried, left, bad⟩ true p0 = ⟨addr, id, true, p0, 7, fails, tried, left, bad⟩) := by show _ = _; unfold setD; rw [show (p0 != p0) = false by simp]; rfl
        go_enter Try.func15, Try.ntmps15
        go_wp2
        exact bodyPost_ret (v := drv ⟨addr, id, true, p0, 7, fails, tried, left, bad⟩) (by simp [results, Try.results15, go_sem]) rfl ⟨by rw [e.out], ((Ext.refl w).alloc _).alloc _⟩
      · have e : Hid (setD ⟨addr, id, wa, p0, 8, fails, tried, left, bad⟩ true p0 = ⟨addr, id, true, p0, 8, fails, tried, left, bad⟩) := by show _ = _; unfold setD; rw [show (p0 != p0) = false by simp]; rfl
        go_enter Try.func15, Try.ntmps15
        go_wp2
        exact bodyPost_ret (v := drv ⟨addr, id, true, p0, 8, fails, tried, left, bad⟩) (by simp [results, Try.results15, go_sem]) rfl ⟨by rw [e.out], ((Ext.refl w).alloc _).alloc _⟩
    · have hb : (p0 != per) = true := by simp [hp]
      rcases hc with rfl | rfl | rfl | rfl | rfl | rfl | rfl | rfl | rfl
      · have e : Hid (setD ⟨addr, id, wa, p0, 0, fails, tried, left, bad⟩ true per = ⟨addr, id, true, per, 1, 0, tried, 0, bad⟩) := by show _ = _; unfold setD; rw [show (per != p0) = true by simp [Ne.symm hp]]; rfl
        go_enter Try.func15, Try.ntmps15
        go_wp2
        exact bodyPost_ret (v := drv ⟨addr, id, true, per, 1, 0, tried, 0, bad⟩) (by simp [results, Try.results15, go_sem]) rfl ⟨by rw [e.out], ((Ext.refl w).alloc _).alloc _⟩
      · have e : Hid (setD ⟨addr, id, wa, p0, 1, fails, tried, left, bad⟩ true per = ⟨addr, id, true, per, 1, fails, tried, left, bad⟩) := by show _ = _; unfold setD; rw [show (per != p0) = true by simp [Ne.symm hp]]; rfl
        go_enter Try.func15, Try.ntmps15
        go_wp2
        exact bodyPost_ret (v := drv ⟨addr, id, true, per, 1, fails, tried, left, bad⟩) (by simp [results, Try.results15, go_sem]) rfl ⟨by rw [e.out], ((Ext.refl w).alloc _).alloc _⟩
      · have e : Hid (setD ⟨addr, id, wa, p0, 2, fails, tried, left, bad⟩ true per = ⟨addr, id, true, per, 2, fails, tried, left, bad⟩) := by show _ = _; unfold setD; rw [show (per != p0) = true by simp [Ne.symm hp]]; rfl
        go_enter Try.func15, Try.ntmps15
        go_wp2
        exact bodyPost_ret (v := drv ⟨addr, id, true, per, 2, fails, tried, left, bad⟩) (by simp [results, Try.results15, go_sem]) rfl ⟨by rw [e.out], ((Ext.refl w).alloc _).alloc _⟩
      · have e : Hid (setD ⟨addr, id, wa, p0, 3, fails, tried, left, bad⟩ true per = ⟨addr, id, true, per, 2, 0, tried, 0, bad⟩) := by show _ = _; unfold setD; rw [show (per != p0) = true by simp [Ne.symm hp]]; rfl
        go_enter Try.func15, Try.ntmps15
        go_wp2
        exact bodyPost_ret (v := drv ⟨addr, id, true, per, 2, 0, tried, 0, bad⟩) (by simp [results, Try.results15, go_sem]) rfl ⟨by rw [e.out], ((Ext.refl w).alloc _).alloc _⟩
      · have e : Hid (setD ⟨addr, id, wa, p0, 4, fails, tried, left, bad⟩ true per = ⟨addr, id, true, per, 2, 0, tried, 0, bad⟩) := by show _ = _; unfold setD; rw [show (per != p0) = true by simp [Ne.symm hp]]; rfl
        go_enter Try.func15, Try.ntmps15
        go_wp2
        exact bodyPost_ret (v := drv ⟨addr, id, true, per, 2, 0, tried, 0, bad⟩) (by simp [results, Try.results15, go_sem]) rfl ⟨by rw [e.out], ((Ext.refl w).alloc _).alloc _⟩
      · have e : Hid (setD ⟨addr, id, wa, p0, 5, fails, tried, left, bad⟩ true per = ⟨addr, id, true, per, 2, 0, tried, 0, bad⟩) := by show _ = _; unfold setD; rw [show (per != p0) = true by simp [Ne.symm hp]]; rfl
        go_enter Try.func15, Try.ntmps15
        go_wp2
        exact bodyPost_ret (v := drv ⟨addr, id, true, per, 2, 0, tried, 0, bad⟩) (by simp [results, Try.results15, go_sem]) rfl ⟨by rw [e.out], ((Ext.refl w).alloc _).alloc _⟩
      · have e : Hid (setD ⟨addr, id, wa, p0, 6, fails, tried, left, bad⟩ true per = ⟨addr, id, true, per, 1, 0, tried, 0, bad⟩) := by show _ = _; unfold setD; rw [show (per != p0) = true by simp [Ne.symm hp]]; rfl
        go_enter Try.func15, Try.ntmps15
        go_wp2
        exact bodyPost_ret (v := drv ⟨addr, id, true, per, 1, 0, tried, 0, bad⟩) (by simp [results, Try.results15, go_sem]) rfl ⟨by rw [e.out], ((Ext.refl w).alloc _).alloc _⟩
      · have e : Hid (setD ⟨addr, id, wa, p0, 7, fails, tried, left, bad⟩ true per = ⟨addr, id, true, per, 7, fails, tried, left, bad⟩) := by show _ = _; unfold setD; rw [show (per != p0) = true by simp [Ne.symm hp]]; rfl
        go_enter Try.func15, Try.ntmps15
        go_wp2
        exact bodyPost_ret (v := drv ⟨addr, id, true, per, 7, fails, tried, left, bad⟩) (by simp [results, Try.results15, go_sem]) rfl ⟨by rw [e.out], ((Ext.refl w).alloc _).alloc _⟩
      · have e : Hid (setD ⟨addr, id, wa, p0, 8, fails, tried, left, bad⟩ true per = ⟨addr, id, true, per, 8, fails, tried, left, bad⟩) := by show _ = _; unfold setD; rw [show (per != p0) = true by simp [Ne.symm hp]]; rfl
        go_enter Try.func15, Try.ntmps15
        go_wp2
        exact bodyPost_ret (v := drv ⟨addr, id, true, per, 8, fails, tried, left, bad⟩) (by simp [results, Try.results15, go_sem]) rfl ⟨by rw [e.out], ((Ext.refl w).alloc _).alloc _⟩
end Go.Proofs.Ytdfhhfpfnkjbnaa
