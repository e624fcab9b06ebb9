/- write and read of the reference's device. -/
import Derived.Test.YtfgljkeohoffiaaZd
namespace Go.Proofs.Ytfgljkeohoffiaa
open Go.RowKit Go.Conc
section
variable {w w' : World} {g o : Nat} {a : Option Addr} {lc : Nat} {qa : Option Addr} {qc : Nat} {s : Dv}
theorem RD.setPer2 (h : RD w g o a lc qa qc s) (v : Value) (n : Nat) (hn : 1 ≤ n ∧ n ≤ 256) : RD ((w.setCell ⟨g, o + 4, none⟩ v).setCell ⟨g, o + 4, none⟩ (.int .i64 n)) g o a lc qa qc { s with per := n } := by
  have t : Tn (fun k => k = g) w ((w.setCell ⟨g, o + 4, none⟩ v).setCell ⟨g, o + 4, none⟩ (.int .i64 n)) := ((Tn.refl (fun k => k = g) w).set (.inl rfl) _ v).set (.inl rfl) _ _
  refine ⟨?_, ?_, ?_, ?_, ?_, ?_, ?_, ?_, ?_, ?_, h.li.tn t (fun k off h1 h2 e => (h.la k off h1 h2).1 e), h.la, h.qu.tn t (fun k hk e => h.qg k hk e), h.qg, h.n0, h.n1, hn, h.n3, h.n4⟩ <;> simp [go_sem, h.c0, h.c1, h.c2, h.c3, h.c4, h.c5, h.c6, h.c7, h.c8, h.f]
theorem Rdk.then_per {s' : Dv} (d : Rdk g o a lc qa s' w w') (n : Nat) (hn : 1 ≤ n ∧ n ≤ 256) : Rdk g o a lc qa { s' with per := n } w (w'.setCell ⟨g, o + 4, none⟩ (.int .i64 n)) := by
  obtain ⟨qa', qc', h, t, k⟩ := d
  exact ⟨qa', qc', h.setPer n hn, t.set 4 (by omega) _, k⟩
set_option maxRecDepth 20000 in
set_option maxHeartbeats 4000000 in
theorem rwrite_any (h : RD w g o a lc qa qc s) (reg b : Nat) (hr : reg ≤ 20) (hb : b ≤ 255) :
    Calls Try.prog 39 #[.pointer (some ⟨g, o, none⟩), .int .i64 reg, .int .u8 b] w fun e w' => (∃ v, e = .returned v) ∧ Rdk g o a lc qa (s.write reg b) w w' := by
  have HO := roff_any h
  have R0 : Hid (Rdk g o a lc qa s w w) := Rdk.of h (Fr.refl _ _ _ _)
  by_cases h1 : reg = 1
  · subst h1
    have e : s.write 1 b = s.turn (decide (b % 2 = 1)) := by unfold Dv.write; rw [if_pos rfl]
    rw [e]
    clear e
    by_cases h2 : b % 2 = 1
    · have hbi : (b : Int) % 2 ≠ 0 := by omega
      rw [decide_eq_true h2]
      have c3 := h.c3
      cases ho : s.on with
      | true =>
        rw [ho] at c3
        have e : s.turn true = s := by unfold Dv.turn; rw [if_pos rfl, if_pos ho]
        rw [e]
        clear h e
        go_enter Try.func39, Try.ntmps39
        go_wp2_with fail
        go_end0
        exact ⟨⟨_, rfl⟩, R0.out⟩
      | false =>
        rw [ho] at c3
        have q1 := h.setOn true
        have f3 := h.f (o + 3)
        have c5 := q1.c5
        have f5 := q1.f (o + 5)
        have e : s.turn true = { s with on := true, tk := 0 } := by unfold Dv.turn; rw [if_pos rfl, if_neg (by rw [ho]; simp)]
        rw [e]
        have R1 : Hid (Rdk g o a lc qa { s with on := true, tk := 0 } w ((w.setCell ⟨g, o + 3, none⟩ (.bool true)).setCell ⟨g, o + 5, none⟩ (.int .i64 0))) := Rdk.of (q1.setTk 0) (((Fr.refl _ _ _ _).set 3 (by omega) _).set 5 (by omega) _)
        clear h q1 e
        go_enter Try.func39, Try.ntmps39
        go_wp2_with fail
        go_end0
        exact ⟨⟨_, rfl⟩, R1.out⟩
    · have hbi : (b : Int) % 2 = 0 := by omega
      rw [decide_eq_false h2]
      clear h
      go_enter Try.func39, Try.ntmps39
      go_wp2_with (go_at_call 52; refine HO.mono ?_; rintro e w2 ⟨⟨u, rfl⟩, d2⟩)
      go_end0
      exact ⟨⟨_, rfl⟩, d2⟩
  have c4 := h.c4
  have f4 := h.f (o + 4)
  by_cases h2 : reg = 2
  · subst h2
    by_cases h0 : b = 0
    · subst h0
      have e : Hid (s.write 2 0 = { s with per := 256 }) := by show _ = _; unfold Dv.write; rw [if_neg (by omega), if_pos rfl, if_pos rfl]
      have R1 : Hid (Rdk g o a lc qa { s with per := 256 } w ((w.setCell ⟨g, o + 4, none⟩ (.int .i64 0)).setCell ⟨g, o + 4, none⟩ (.int .i64 256))) := Rdk.of (h.setPer2 _ 256 (by omega)) (((Fr.refl _ _ _ _).set 4 (by omega) _).set 4 (by omega) _)
      clear h
      go_enter Try.func39, Try.ntmps39
      go_wp2_with fail
      go_end0
      rw [e.out]
      exact ⟨⟨_, rfl⟩, R1.out⟩
    · have hbi : (b : Int) ≠ 0 := by omega
      have e : Hid (s.write 2 b = { s with per := b }) := by show _ = _; unfold Dv.write; rw [if_neg (by omega), if_pos rfl, if_neg h0]
      have R1 : Hid (Rdk g o a lc qa { s with per := b } w (w.setCell ⟨g, o + 4, none⟩ (.int .i64 b))) := Rdk.of (h.setPer b (by omega)) ((Fr.refl _ _ _ _).set 4 (by omega) _)
      clear h
      go_enter Try.func39, Try.ntmps39
      go_wp2_with fail
      go_end0
      rw [e.out]
      exact ⟨⟨_, rfl⟩, R1.out⟩
  have n1 : (reg : Int) ≠ 1 := by omega
  have n2 : (reg : Int) ≠ 2 := by omega
  by_cases h5 : reg = 5
  · subst h5
    by_cases h6 : b = 182
    · subst h6
      have e : Hid (s.write 5 182 = s.reset) := by show _ = _; unfold Dv.write; rw [if_neg (by omega), if_neg (by omega), if_pos rfl, if_pos rfl]
      clear h
      go_enter Try.func39, Try.ntmps39
      go_wp2_with (go_at_call 52; refine HO.mono ?_; rintro e w2 ⟨⟨u, rfl⟩, d2⟩; have R2 : Hid (Rdk g o a lc qa s.reset w (w2.setCell ⟨g, o + 4, none⟩ (.int .i64 1))) := d2.then_per 1 (by omega); obtain ⟨qa', qc', t1, _, _⟩ := d2; have k4 := t1.c4; have g4 := t1.f (o + 4); clear t1)
      go_end0
      rw [e.out]
      exact ⟨⟨_, rfl⟩, R2.out⟩
    · have e : Hid (s.write 5 b = s) := by show _ = _; unfold Dv.write; rw [if_neg (by omega), if_neg (by omega), if_pos rfl, if_neg h6]
      have hbi : (b : Int) ≠ 182 := by omega
      clear h
      go_enter Try.func39, Try.ntmps39
      go_wp2_with fail
      go_end0
      rw [e.out]
      exact ⟨⟨_, rfl⟩, R0.out⟩
  · have e : Hid (s.write reg b = s) := by show _ = _; unfold Dv.write; rw [if_neg h1, if_neg h2, if_neg h5]
    have n5 : (reg : Int) ≠ 5 := by omega
    clear h
    go_enter Try.func39, Try.ntmps39
    go_wp2_with fail
    go_end0
    rw [e.out]
    exact ⟨⟨_, rfl⟩, R0.out⟩
set_option maxRecDepth 20000 in
set_option maxHeartbeats 2000000 in
theorem rread_any (h : RD w g o a lc qa qc s) (reg : Nat) (hr : reg ≤ 1000) :
    Calls Try.prog 41 #[.pointer (some ⟨g, o, none⟩), .int .i64 reg] w fun e w' => e = .returned (.int .u8 (s.read reg)) ∧ w' = w := by
  have c1 := h.c1
  have c3 := h.c3
  have c4 := h.c4
  have c8 := h.c8
  have h4 := h.n4
  have h2 := h.n2
  have hq := h.n3
  clear h
  by_cases r0 : reg = 0
  · subst r0
    have e : Hid (s.read 0 = s.id.toNat) := by show _ = _; unfold Dv.read; rw [if_pos rfl]
    have ei : Hid (((s.id.toNat : Nat) : Int) = s.id) := by show _ = _; omega
    go_enter Try.func41, Try.ntmps41
    go_wp2_with fail
    go_ret
    refine ⟨ret_int ?_, rfl⟩
    rw [e.out, ei.out]
    try omega
  have n0 : (reg : Int) ≠ 0 := by omega
  by_cases r1 : reg = 1
  · subst r1
    have e : Hid (s.read 1 = if s.on = true then 1 else 0) := by show _ = _; unfold Dv.read; rw [if_neg (by omega), if_pos rfl]
    cases ho : s.on <;> rw [ho] at c3
    · go_enter Try.func41, Try.ntmps41
      go_wp2_with fail
      go_ret
      refine ⟨ret_int ?_, rfl⟩
      rw [e.out, if_neg (by rw [ho]; simp)]; rfl
    · go_enter Try.func41, Try.ntmps41
      go_wp2_with fail
      go_ret
      refine ⟨ret_int ?_, rfl⟩
      rw [e.out, if_pos ho]; rfl
  have n1 : (reg : Int) ≠ 1 := by omega
  by_cases r2 : reg = 2
  · subst r2
    have e : Hid (s.read 2 = s.per % 256) := by show _ = _; unfold Dv.read; rw [if_neg (by omega), if_neg (by omega), if_pos rfl]
    go_enter Try.func41, Try.ntmps41
    go_wp2_with fail
    go_ret
    refine ⟨ret_int ?_, rfl⟩
    rw [e.out]
    try omega
  have n2 : (reg : Int) ≠ 2 := by omega
  by_cases r3 : reg = 3
  · subst r3
    have e : Hid (s.read 3 = s.q.length) := by show _ = _; unfold Dv.read; rw [if_neg (by omega), if_neg (by omega), if_neg (by omega), if_pos rfl]
    go_enter Try.func41, Try.ntmps41
    go_wp2_with fail
    go_ret
    refine ⟨ret_int ?_, rfl⟩
    rw [e.out]
    try omega
  · have n3 : (reg : Int) ≠ 3 := by omega
    have e : Hid (s.read reg = 0) := by show _ = _; unfold Dv.read; rw [if_neg r0, if_neg r1, if_neg r2, if_neg r3]
    go_enter Try.func41, Try.ntmps41
    go_wp2_with fail
    go_ret
    refine ⟨ret_int ?_, rfl⟩
    rw [e.out]; rfl
end
end Go.Proofs.Ytfgljkeohoffiaa
