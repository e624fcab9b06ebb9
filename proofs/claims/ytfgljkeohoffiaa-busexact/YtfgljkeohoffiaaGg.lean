/- measure, tick, write, read, show of a device. -/
import Derived.Test.YtfgljkeohoffiaaGf
namespace Go.Proofs.Ytfgljkeohoffiaa
open Go.RowKit Go.Conc
set_option maxRecDepth 20000 in
set_option maxHeartbeats 2000000 in
theorem measure_any (w : World) {x : DA} {s : Dv} (h : IsDev w x s) :
    Calls Try.prog 46 #[.pointer (some ⟨x.p, 0, none⟩)] w fun e w' => (∃ v, e = .returned v) ∧ Dd x s.meas w w' := by
  have c2 := h.c2
  by_cases h0 : s.list.length = 0
  · have e : s.meas = s := by unfold Dv.meas; rw [if_pos h0]
    rw [e]
    rw [h0] at c2
    go_enter Try.func46, Try.ntmps46
    go_wp2_with fail
    (try simp only [Exit.inBlock, Exit.then]); refine bodyPost_ret (results_none rfl _ _ _) rfl ?_
    exact ⟨⟨_, rfl⟩, h, Tn.refl _ _⟩
  · obtain ⟨hq16, _, _⟩ := h.ring.le
    have hn := h.n0 (by omega)
    have hl := h.n1
    have HM : Hid (s.meas = if s.q.length < 16 then { s with q := s.q ++ [smp s.list s.next], next := (s.next + 1) % s.list.length } else { s with lost := wrap64 (s.lost + 1), next := (s.next + 1) % s.list.length }) := by
      show _ = _
      unfold Dv.meas; rw [if_neg h0]
    have hne : (s.list.length : Int) ≠ 0 := by omega
    have hlt : (s.next + 1) % s.list.length < s.list.length := Nat.mod_lt _ (by omega)
    have hcast : ((s.next : Int) + 1) % (s.list.length : Int) = (((s.next + 1) % s.list.length : Nat) : Int) := by simp
    have HC : Hid (((s.next : Int) + 1) % (s.list.length : Int) = (((s.next + 1) % s.list.length : Nat) : Int)) := hcast
    have HL : Hid (∀ n, Calls Try.prog 47 #[.pointer (some ⟨x.rp, 0, none⟩)] (w.drewN n) fun e w' => e = .returned (.int .i64 s.q.length) ∧ Quiet (w.drewN n) w') := fun n => len_lq _ (h.ring.drewN n)
    have HK : Hid (∀ n, Calls Try.prog 58 #[.pointer (some ⟨x.rp, 0, none⟩)] (w.drewN n) fun e w' => e = .returned (.int .i64 (16 : Nat)) ∧ w' = w.drewN n) := fun n => cap_lq _ (h.ring.drewN n)
    have c7 := h.c7
    clear hcast
    go_enter Try.func46, Try.ntmps46
    go_wp2_with fail
    go_quiet (first | (go_at_call 47; exact Calls.quiet_of (HL.out _)) | (go_at_call 58; exact Calls.quiet_of_same (HK.out _)))
    have hd : IsDev (w.drewN nq) x s := h.ext (drewN_ext nq)
    have ht : Hid (Tn (DO x) w (w.drewN nq)) := Tn.of_ext (drewN_ext nq)
    generalize w.drewN nq = w1 at *
    clear HL HK h c2 c7
    have c2 := hd.c2
    have c7 := hd.c7
    have c3 := hd.c3
    have c8 := hd.c8
    have f3 := hd.f 3
    have f8 := hd.f 8
    by_cases hr : s.q.length < 16
    · have hri : (s.q.length : Int) < 16 := by omega
      obtain ⟨b, off, ea, hc⟩ := hd.li s.next hn
      have HP : Hid (∀ n, Calls Try.prog 59 #[.pointer (some ⟨x.rp, 0, none⟩), rv (smp s.list s.next)] (w1.drewN n) fun e w' => (∃ v, e = .returned v) ∧ Hid (Dd x { s with q := s.q ++ [smp s.list s.next] } w1 w') ∧ (w'.cell? ⟨x.p, 2, none⟩ = some (.slice x.a s.list.length x.lc) ∧ w'.cell? ⟨x.p, 3, none⟩ = some (.int .i64 s.next) ∧ w'.cell? ⟨x.p, 7, none⟩ = some (.pointer (some ⟨x.rp, 0, none⟩)) ∧ w'.frozen? ⟨x.p, 3, none⟩ = false) ∧ C4 w' b (off + s.next * 4) (smp s.list s.next)) := fun n => (push_lq _ (hd.ring.drewN n) _ hr).mono fun e w' ⟨he, hr, ht⟩ => ⟨⟨_, he⟩, by
        obtain ⟨d1, d2⟩ := (hd.ext (drewN_ext n)).ringed ht hr
        obtain ⟨b', off', ea', hc'⟩ := d1.li s.next hn
        rw [ea] at ea'
        cases ea'
        exact ⟨⟨d1, (Tn.of_ext (own := DO x) (drewN_ext n)).trans d2 (fun _ _ o => o)⟩, ⟨d1.c2, d1.c3, d1.c7, d1.f 3⟩, hc'⟩⟩
      rw [ea] at c2 HP
      generalize smp s.list s.next = y at *
      obtain ⟨i0, i1, i2, i3⟩ := hc
      clear hd c8 f8 f3
      go_upto_region 2 with fail
      go_region_held3 (fun w' => w'.cell? ⟨x.p, 2, none⟩ = some (.slice (some ⟨b, off, none⟩) s.list.length x.lc) ∧ w'.cell? ⟨x.p, 3, none⟩ = some (.int .i64 s.next) ∧ w'.cell? ⟨x.p, 7, none⟩ = some (.pointer (some ⟨x.rp, 0, none⟩)) ∧ w'.cell? ⟨b, off + s.next * 4, none⟩ = some (.int .i64 y.x) ∧ w'.cell? ⟨b, off + s.next * 4 + 1, none⟩ = some (.int .i64 y.y) ∧ w'.cell? ⟨b, off + s.next * 4 + 2, none⟩ = some (.int .i64 y.z) ∧ w'.cell? ⟨b, off + s.next * 4 + 3, none⟩ = some (.int .i64 y.t)) (first | (go_keep; done) | skip) (first | (go_at_call 59; refine (HP.out 1).mono ?_; rintro e w2 ⟨⟨u, rfl⟩, hp, ⟨k2, k3, k7, g3⟩, j0, j1, j2, j3⟩))
      clear c2 c7 c3 i0 i1 i2 i3 j0 j1 j2 j3 k7
      go_upto_region 4 with fail
      go_region
      go_wp2_with fail
      go_end0
      rw [HC.out]
      have e2 : s.meas = { s with q := s.q ++ [y], next := (s.next + 1) % s.list.length } := by rw [HM.out, if_pos hr]
      rw [e2]
      exact ⟨⟨_, rfl⟩, (hp.out.1.setNext _ (fun _ => hlt)).ext (drewN_ext 1), (ht.out.trans (hp.out.2.set (.inl (.inl rfl)) _ _) (fun _ _ o => o)).drew⟩
    · have hri : ¬ (s.q.length : Int) < 16 := by omega
      have h8 := hd.setLost (wrap64 (s.lost + 1))
      have HD : Hid (IsDev (w1.setCell ⟨x.p, 8, none⟩ (.int .i64 (wrap64 (s.lost + 1)))) x { s with lost := wrap64 (s.lost + 1) }) := h8
      have k2 := h8.c2
      have k3 := h8.c3
      have g3 := h8.f 3
      have HT : Hid (Tn (DO x) w1 (w1.setCell ⟨x.p, 8, none⟩ (.int .i64 (wrap64 (s.lost + 1))))) := (Tn.refl _ w1).set (.inl (.inl rfl)) _ _
      have e2 : Hid (s.meas = { s with lost := wrap64 (s.lost + 1), next := (s.next + 1) % s.list.length }) := by show _ = _; rw [HM.out, if_neg hr]
      clear h8
      go_upto_region 4 with fail
      generalize (w1.setCell ⟨x.p, 8, none⟩ (.int .i64 (wrap64 (s.lost + 1)))) = w2 at *
      clear hd c2 c3 c7 c8 f3 f8
      go_region
      go_wp2_with fail
      go_end0
      rw [HC.out, e2.out]
      exact ⟨⟨_, rfl⟩, (HD.out.setNext _ (fun _ => hlt)).ext (drewN_ext 1), (ht.out.trans (HT.out.set (.inl (.inl rfl)) _ _) (fun _ _ o => o)).drew⟩
theorem meas_tk (s : Dv) : s.meas.tk = s.tk := by unfold Dv.meas; split; rfl; split <;> rfl
theorem meas_per (s : Dv) : s.meas.per = s.per := by unfold Dv.meas; split; rfl; split <;> rfl
theorem tick_le (s : Dv) (h : s.tk ≤ 255) (hp : s.per ≤ 256) : s.tick.tk ≤ 255 := by
  unfold Dv.tick
  split
  · split
    · rw [meas_tk]; exact Nat.zero_le _
    · show s.tk + 1 ≤ 255; omega
  · exact h
set_option maxRecDepth 20000 in
set_option maxHeartbeats 2000000 in
theorem tick_any (w : World) {x : DA} {s : Dv} (h : IsDev w x s) (ht : s.tk ≤ 255) :
    Calls Try.prog 32 #[.pointer (some ⟨x.p, 0, none⟩)] w fun e w' => (∃ v, e = .returned v) ∧ Dd x s.tick w w' := by
  have c4 := h.c4
  cases ho : s.on with
  | false =>
    rw [ho] at c4
    have e : s.tick = s := by unfold Dv.tick; rw [if_neg (by rw [ho]; simp)]
    rw [e]
    go_enter Try.func32, Try.ntmps32
    go_wp2_with fail
    (try simp only [Exit.inBlock, Exit.then]); refine bodyPost_ret (results_none rfl _ _ _) rfl ?_
    exact ⟨⟨_, rfl⟩, h, Tn.refl _ _⟩
  | true =>
    rw [ho] at c4
    have c6 := h.c6
    have f6 := h.f 6
    have h2 := h.n2
    have hT : Hid (Tn (DO x) w (w.setCell ⟨x.p, 6, none⟩ (.int .i64 ((s.tk : Int) + 1)))) := (Tn.refl _ w).set (.inl (.inl rfl)) _ _
    have hD : IsDev (w.setCell ⟨x.p, 6, none⟩ (.int .i64 ((s.tk : Int) + 1))) x { s with tk := s.tk + 1 } := h.setTk (s.tk + 1)
    go_enter Try.func32, Try.ntmps32
    go_upto_region 2 with fail
    generalize (w.setCell ⟨x.p, 6, none⟩ (.int .i64 ((s.tk : Int) + 1))) = w1 at *
    clear c6 f6 c4 h
    have c6 := hD.c6
    have c5 := hD.c5
    have c6 : w1.cell? ⟨x.p, 6, none⟩ = some (.int .i64 ((s.tk : Int) + 1)) := hD.c6
    have f6 := hD.f 6
    have HD : Hid (IsDev w1 x { s with tk := s.tk + 1 }) := hD
    clear hD
    go_quiet (fail)
    by_cases hp : s.per ≤ s.tk + 1
    · have e : Hid (s.tick = Dv.meas { s with tk := 0 }) := by show _ = _; unfold Dv.tick; rw [if_pos ho, if_pos hp]
      have hpi : (s.per : Int) ≤ s.tk + 1 := by omega
      have HM : Hid (Calls Try.prog 46 #[.pointer (some ⟨x.p, 0, none⟩)] ((w1.drewN nq).setCell ⟨x.p, 6, none⟩ (.int .i64 0)) fun e w' => (∃ v, e = .returned v) ∧ Dd x (Dv.meas { s with tk := 0 }) w w') := by
        refine (measure_any _ ((HD.out.ext (drewN_ext nq)).setTk 0)).mono ?_
        rintro e w' ⟨he, d⟩
        exact ⟨he, d.1, ((hT.out.drewN nq).set (.inl (.inl rfl)) 6 (.int .i64 0)).trans d.2 (fun _ _ o => o)⟩
      go_wp2_with (go_at_call 46; refine HM.out.mono ?_; rintro e w2 ⟨⟨u, rfl⟩, d2⟩)
      go_end0
      rw [e.out]
      exact ⟨⟨_, rfl⟩, d2⟩
    · have e : Hid (s.tick = { s with tk := s.tk + 1 }) := by show _ = _; unfold Dv.tick; rw [if_pos ho, if_neg hp]
      have hpi : ¬ (s.per : Int) ≤ s.tk + 1 := by omega
      go_wp2_with fail
      go_end0
      rw [e.out]
      exact ⟨⟨_, rfl⟩, HD.out.ext (drewN_ext nq), hT.out.drewN nq⟩
theorem write_le (s : Dv) (reg b : Nat) (h : s.tk ≤ 255) : (s.write reg b).tk ≤ 255 := by
  have ht : ∀ b, (s.turn b).tk ≤ 255 := fun b => by unfold Dv.turn; (repeat' split) <;> first | exact h | exact Nat.zero_le _
  unfold Dv.write
  split
  · exact ht _
  split
  · exact h
  split
  · split
    · exact ht false
    · exact h
  · exact h
theorem IsDev.setPer2 {w : World} {x : DA} {s : Dv} (h : IsDev w x s) (v : Value) (n : Nat) (hn : 1 ≤ n ∧ n ≤ 256) : IsDev ((w.setCell ⟨x.p, 5, none⟩ v).setCell ⟨x.p, 5, none⟩ (.int .i64 n)) x { s with per := n } := by
  have t : Tn (fun k => k = x.p) w ((w.setCell ⟨x.p, 5, none⟩ v).setCell ⟨x.p, 5, none⟩ (.int .i64 n)) := ((Tn.refl (fun k => k = x.p) w).set (.inl rfl) 5 v).set (.inl rfl) 5 _
  refine ⟨?_, ?_, ?_, ?_, ?_, ?_, ?_, ?_, ?_, ?_, h.li.tn t (fun k off h1 h2 o => h.la k off h1 h2 (.inl o)), h.la, h.ring.tn t (fun e => h.ne.1 e.symm) (fun e => h.ne.2.1 e.symm) (fun e => h.ne.2.2 e.symm), h.ne, h.n0, h.n1, hn, h.n4⟩ <;> simp [go_sem, h.c0, h.c1, h.c2, h.c3, h.c4, h.c5, h.c6, h.c7, h.c8, h.f]
set_option maxRecDepth 20000 in
set_option maxHeartbeats 2000000 in
theorem write_any (w : World) {x : DA} {s : Dv} (h : IsDev w x s) (reg b : Nat) (hr : reg ≤ 20) (hb : b ≤ 255) :
    Calls Try.prog 49 #[.pointer (some ⟨x.p, 0, none⟩), .int .i64 reg, .int .u8 b] w fun e w' => (∃ v, e = .returned v) ∧ Dd x (s.write reg b) w w' := by
  have c5 := h.c5
  have f5 := h.f 5
  by_cases h1 : reg = 1
  · subst h1
    have e : s.write 1 b = s.turn (decide (b % 2 = 1)) := by unfold Dv.write; rw [if_pos rfl]
    rw [e]
    have eb : ((b : Int) % 2 == 1) = decide (b % 2 = 1) := by
      rw [Bool.eq_iff_iff]; simp only [beq_iff_eq, decide_eq_true_eq]; omega
    have HT : Hid (Calls Try.prog 60 #[.pointer (some ⟨x.p, 0, none⟩), .bool ((b : Int) % 2 == 1)] w fun e w' => (∃ v, e = .returned v) ∧ Dd x (s.turn (decide (b % 2 = 1))) w w') := by rw [eb]; exact turn_any w h _
    clear eb e
    go_enter Try.func49, Try.ntmps49
    go_wp2_with (go_at_call 60; refine HT.out.mono ?_; rintro e w2 ⟨⟨u, rfl⟩, d2⟩)
    go_end0
    exact ⟨⟨_, rfl⟩, d2⟩
  by_cases h2 : reg = 2
  · subst h2
    by_cases h0 : b = 0
    · subst h0
      have e : Hid (s.write 2 0 = { s with per := 256 }) := by show _ = _; unfold Dv.write; rw [if_neg (by omega), if_pos rfl, if_pos rfl]
      go_enter Try.func49, Try.ntmps49
      go_wp2_with fail
      go_end0
      rw [e.out]
      exact ⟨⟨_, rfl⟩, h.setPer2 _ 256 (by omega), ((Tn.refl _ w).set (.inl (.inl rfl)) _ _).set (.inl (.inl rfl)) _ _⟩
    · have hbi : (b : Int) ≠ 0 := by omega
      have e : Hid (s.write 2 b = { s with per := b }) := by show _ = _; unfold Dv.write; rw [if_neg (by omega), if_pos rfl, if_neg h0]
      go_enter Try.func49, Try.ntmps49
      go_wp2_with fail
      go_end0
      rw [e.out]
      exact ⟨⟨_, rfl⟩, h.setPer b (by omega), (Tn.refl _ w).set (.inl (.inl rfl)) _ _⟩
  have n1 : (reg : Int) ≠ 1 := by omega
  have n2 : (reg : Int) ≠ 2 := by omega
  by_cases h5 : reg = 5
  · subst h5
    by_cases h6 : b = 182
    · subst h6
      have e : Hid (s.write 5 182 = s.reset) := by show _ = _; unfold Dv.write; rw [if_neg (by omega), if_neg (by omega), if_pos rfl, if_pos rfl]
      have HT : Hid (Calls Try.prog 61 #[.pointer (some ⟨x.p, 0, none⟩)] w fun e w' => (∃ v, e = .returned v) ∧ Dd x s.reset w w') := reset_any w h
      go_enter Try.func49, Try.ntmps49
      go_wp2_with (go_at_call 61; refine HT.out.mono ?_; rintro e w2 ⟨⟨u, rfl⟩, d2⟩)
      go_end0
      rw [e.out]
      exact ⟨⟨_, rfl⟩, d2⟩
    · have e : Hid (s.write 5 b = s) := by show _ = _; unfold Dv.write; rw [if_neg (by omega), if_neg (by omega), if_pos rfl, if_neg h6]
      have hbi : (b : Int) ≠ 182 := by omega
      go_enter Try.func49, Try.ntmps49
      go_wp2_with fail
      go_end0
      rw [e.out]
      exact ⟨⟨_, rfl⟩, h, Tn.refl _ _⟩
  · have e : Hid (s.write reg b = s) := by show _ = _; unfold Dv.write; rw [if_neg h1, if_neg h2, if_neg h5]
    have n5 : (reg : Int) ≠ 5 := by omega
    go_enter Try.func49, Try.ntmps49
    go_wp2_with fail
    go_end0
    rw [e.out]
    exact ⟨⟨_, rfl⟩, h, Tn.refl _ _⟩
set_option maxRecDepth 20000 in
set_option maxHeartbeats 2000000 in
theorem read_any (w : World) {x : DA} {s : Dv} (h : IsDev w x s) (reg : Nat) (hr : reg ≤ 1000) :
    Calls Try.prog 51 #[.pointer (some ⟨x.p, 0, none⟩), .int .i64 reg] w fun e w' => e = .returned (.int .u8 (s.read reg)) ∧ Quiet w w' := by
  have c1 := h.c1
  have c4 := h.c4
  have c5 := h.c5
  have c7 := h.c7
  have h4 := h.n4
  have h2 := h.n2
  obtain ⟨hq, _, _⟩ := h.ring.le
  have HL : Hid (Calls Try.prog 47 #[.pointer (some ⟨x.rp, 0, none⟩)] w fun e w' => e = .returned (.int .i64 s.q.length) ∧ Quiet w w') := len_lq _ h.ring
  have q0 : Quiet w w := ⟨0, rfl⟩
  by_cases r0 : reg = 0
  · subst r0
    have e : Hid (s.read 0 = s.id.toNat) := by show _ = _; unfold Dv.read; rw [if_pos rfl]
    have ei : Hid (((s.id.toNat : Nat) : Int) = s.id) := by show _ = _; omega
    go_enter Try.func51, Try.ntmps51
    go_wp2_with fail
    go_ret
    refine ⟨ret_int ?_, q0⟩
    rw [e.out, ei.out]
  have n0 : (reg : Int) ≠ 0 := by omega
  by_cases r1 : reg = 1
  · subst r1
    have e : Hid (s.read 1 = if s.on = true then 1 else 0) := by show _ = _; unfold Dv.read; rw [if_neg (by omega), if_pos rfl]
    cases ho : s.on <;> rw [ho] at c4
    · go_enter Try.func51, Try.ntmps51
      go_wp2_with fail
      go_ret
      refine ⟨ret_int ?_, q0⟩
      rw [e.out, if_neg (by rw [ho]; simp)]; rfl
    · go_enter Try.func51, Try.ntmps51
      go_wp2_with fail
      go_ret
      refine ⟨ret_int ?_, q0⟩
      rw [e.out, if_pos ho]; rfl
  have n1 : (reg : Int) ≠ 1 := by omega
  by_cases r2 : reg = 2
  · subst r2
    have e : Hid (s.read 2 = s.per % 256) := by show _ = _; unfold Dv.read; rw [if_neg (by omega), if_neg (by omega), if_pos rfl]
    go_enter Try.func51, Try.ntmps51
    go_wp2_with fail
    go_ret
    refine ⟨ret_int ?_, q0⟩
    rw [e.out]
    omega
  have n2 : (reg : Int) ≠ 2 := by omega
  by_cases r3 : reg = 3
  · subst r3
    have e : Hid (s.read 3 = s.q.length) := by show _ = _; unfold Dv.read; rw [if_neg (by omega), if_neg (by omega), if_neg (by omega), if_pos rfl]
    go_enter Try.func51, Try.ntmps51
    go_wp2_with (go_at_call 47; refine HL.out.mono ?_; rintro e w2 ⟨rfl, d2⟩)
    go_ret
    refine ⟨ret_int ?_, d2⟩
    rw [e.out]
  · have n3 : (reg : Int) ≠ 3 := by omega
    have e : Hid (s.read reg = 0) := by show _ = _; unfold Dv.read; rw [if_neg r0, if_neg r1, if_neg r2, if_neg r3]
    go_enter Try.func51, Try.ntmps51
    go_wp2_with fail
    go_ret
    refine ⟨ret_int ?_, q0⟩
    rw [e.out]; rfl
/-- what a device is like -/
def Dv.told (s : Dv) : Value := .agg #[.int .i64 s.addr, .bool s.on, .int .i64 s.per, .int .i64 s.q.length, .int .i64 s.lost, .int .i64 s.next]
set_option maxRecDepth 20000 in
set_option maxHeartbeats 2000000 in
theorem show_any (w : World) {x : DA} {s : Dv} (h : IsDev w x s) :
    Calls Try.prog 34 #[.pointer (some ⟨x.p, 0, none⟩)] w fun e w' => e = .returned s.told ∧ Ext w w' := by
  have hx : Ext w (w.alloc (.cells #[.int .i64 0, .bool false, .int .i64 0, .int .i64 0, .int .i64 0, .int .i64 0] 51)) := (Ext.refl w).alloc _
  have h1 := h.ext hx
  have hlt := h.lt x.p (.inl (.inl rfl))
  have ne1 : x.p ≠ w.heap.size := by omega
  have ne2 : w.heap.size ≠ x.p := by omega
  have b : ∀ j, j < 6 → ∃ v, (w.alloc (.cells #[.int .i64 0, .bool false, .int .i64 0, .int .i64 0, .int .i64 0, .int .i64 0] 51)).cell? ⟨w.heap.size, j, none⟩ = some v ∧ (w.alloc (.cells #[.int .i64 0, .bool false, .int .i64 0, .int .i64 0, .int .i64 0, .int .i64 0] 51)).frozen? ⟨w.heap.size, j, none⟩ = false := by
    intro j hj
    match j, hj with
    | 0, _ => exact ⟨.int .i64 0, by simp [go_sem], by simp [go_sem]⟩
    | 1, _ => exact ⟨.bool false, by simp [go_sem], by simp [go_sem]⟩
    | 2, _ => exact ⟨.int .i64 0, by simp [go_sem], by simp [go_sem]⟩
    | 3, _ => exact ⟨.int .i64 0, by simp [go_sem], by simp [go_sem]⟩
    | 4, _ => exact ⟨.int .i64 0, by simp [go_sem], by simp [go_sem]⟩
    | 5, _ => exact ⟨.int .i64 0, by simp [go_sem], by simp [go_sem]⟩
    | j + 6, h => omega
  go_enter Try.func34, Try.ntmps34
  go_upto_region 1 with fail
  generalize (w.alloc (.cells #[.int .i64 0, .bool false, .int .i64 0, .int .i64 0, .int .i64 0, .int .i64 0] 51)) = w1 at *
  have HL : Hid (∀ n, Calls Try.prog 47 #[.pointer (some ⟨x.rp, 0, none⟩)] (w1.drewN n) fun e w' => e = .returned (.int .i64 s.q.length) ∧ ∃ m, w' = (w1.drewN n).drewN m) := fun n => len_lq _ (h1.ring.drewN n)
  have c0 := h1.c0
  have c3 := h1.c3
  have c4 := h1.c4
  have c5 := h1.c5
  have c7 := h1.c7
  have c8 := h1.c8
  obtain ⟨v0, b0, f0⟩ := b 0 (by omega)
  obtain ⟨v1, b1, f1⟩ := b 1 (by omega)
  obtain ⟨v2, b2, f2⟩ := b 2 (by omega)
  obtain ⟨v3, b3, f3⟩ := b 3 (by omega)
  obtain ⟨v4, b4, f4⟩ := b 4 (by omega)
  obtain ⟨v5, b5, f5⟩ := b 5 (by omega)
  clear b h h1 hlt
  generalize hV : w.heap.size = V at *
  have HV : Hid (w.heap.size ≤ V) := Nat.le_of_eq hV
  clear hV
  go_region_held3 (fun w' => w'.cell? ⟨x.p, 0, none⟩ = some (.int .i64 s.addr) ∧ w'.cell? ⟨x.p, 3, none⟩ = some (.int .i64 s.next) ∧ w'.cell? ⟨x.p, 4, none⟩ = some (.bool s.on) ∧ w'.cell? ⟨x.p, 5, none⟩ = some (.int .i64 s.per) ∧ w'.cell? ⟨x.p, 7, none⟩ = some (.pointer (some ⟨x.rp, 0, none⟩)) ∧ w'.cell? ⟨x.p, 8, none⟩ = some (.int .i64 s.lost)) (first | (go_keep; done) | skip) (first | (go_at_call 47; refine (HL.out 1).mono ?_; rintro e w2 ⟨rfl, m2, rfl⟩))
  have hx9 : Ext w (((((((w1.drewN (1 + m2)).setCell ⟨V, 0, none⟩ (.int .i64 s.addr)).setCell ⟨V, 1, none⟩ (.bool s.on)).setCell ⟨V, 2, none⟩ (.int .i64 s.per)).setCell ⟨V, 3, none⟩ (.int .i64 s.q.length)).setCell ⟨V, 4, none⟩ (.int .i64 s.lost)).setCell ⟨V, 5, none⟩ (.int .i64 s.next)) := (((((((hx.trans (drewN_ext (1 + m2))).new HV.out _ _).new HV.out _ _).new HV.out _ _).new HV.out _ _).new HV.out _ _).new HV.out _ _)
  go_wp2_with fail
  exact bodyPost_ret (v := s.told) (by simp [results, Try.results34, go_sem, Dv.told, b0, b1, b2, b3, b4, b5]) rfl ⟨rfl, hx9⟩
end Go.Proofs.Ytfgljkeohoffiaa
