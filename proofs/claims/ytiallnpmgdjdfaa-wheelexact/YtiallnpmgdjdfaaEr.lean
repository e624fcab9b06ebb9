/- Lists of timers: EqTimers, CopyTimers, Timers. -/
import Derived.Test.YtiallnpmgdjdfaaNx
namespace Go.Proofs.Ytiallnpmgdjdfaa
open Go.RowKit
/-- the slice v tells the timers of S -/
def Rd (w : World) (v : Value) (S : List Tm) : Prop :=
  ∃ a cap, v = .slice a S.length cap ∧ ∀ j, j < S.length → ∃ b off, a = some ⟨b, off, none⟩ ∧ w.cell? ⟨b, off + j * 2, none⟩ = some (.int .i64 (gt S j).1) ∧ w.cell? ⟨b, off + j * 2 + 1, none⟩ = some (.int .i64 (gt S j).2.1)
theorem Rd.ext {w w' : World} {v : Value} {S : List Tm} (h : Rd w v S) (x : Ext w w') : Rd w' v S := by
  obtain ⟨a, cap, e, h⟩ := h
  refine ⟨a, cap, e, fun j hj => ?_⟩
  obtain ⟨b, off, ea, h1, h2⟩ := h j hj
  exact ⟨b, off, ea, x.keepc h1, x.keepc h2⟩
theorem rd_row {w : World} {B : Nat} {v : Value} {S : List Tm} (h : w.ownsRow B Ea 2 v S.length (flat2 S)) : Rd w v S := by
  obtain ⟨a, cap, rfl⟩ : ∃ a cap, v = .slice a S.length cap := by
    rcases h.2 with ⟨e1, e2⟩ | ⟨g, cap, cur, e1, _⟩
    · exact ⟨none, 0, by rw [e1, e2]⟩
    · exact ⟨_, _, e1⟩
  refine ⟨a, cap, rfl, fun j hj => ?_⟩
  obtain ⟨g, rfl, c0, c1⟩ := row2 h hj
  exact ⟨g, 0, rfl, by rw [Nat.zero_add]; exact c0, by rw [Nat.zero_add]; exact c1⟩
set_option maxHeartbeats 2000000 in
theorem eq_timers {S : List Tm} (u v : Value) (w : World) (hu : Rd w u S) (hv : Rd w v S) (hS : S.length ≤ 100000) :
    Calls Try.prog 13 #[u, v] w fun e w' => e = .returned (.bool true) ∧ Ext w w' := by
  obtain ⟨a, cap, rfl, ha⟩ := hu
  obtain ⟨b, cap', rfl, hb⟩ := hv
  have HA : Hid (∀ j, j < S.length → ∃ b off, a = some ⟨b, off, none⟩ ∧ w.cell? ⟨b, off + j * 2, none⟩ = some (.int .i64 (gt S j).1) ∧ w.cell? ⟨b, off + j * 2 + 1, none⟩ = some (.int .i64 (gt S j).2.1)) := ha
  have HB : Hid (∀ j, j < S.length → ∃ b' off, b = some ⟨b', off, none⟩ ∧ w.cell? ⟨b', off + j * 2, none⟩ = some (.int .i64 (gt S j).1) ∧ w.cell? ⟨b', off + j * 2 + 1, none⟩ = some (.int .i64 (gt S j).2.1)) := hb
  have HL : Hid (S.length ≤ 100000) := hS
  clear ha hb hS
  go_enter Try.func13, Try.ntmps13
  go_wp2_with fail
  go_loopw [5] (fun s5 wr => ∃ j : Nat, j ≤ S.length ∧ s5 = .int .i64 j ∧ Ext w wr) (fun s5 _ => S.length - (intOf s5).toNat)
  case atStart => exact ⟨0, Nat.zero_le _, rfl, Ext.refl _⟩
  case round =>
    obtain ⟨j, hj, rfl, hx⟩ := hrel
    by_cases hlt : j < S.length
    · have hjx : (j : Int) < (S.length : Int) := by omega
      obtain ⟨b1, o1, rfl, c0, c1⟩ := HA.out j hlt
      obtain ⟨b2, o2, rfl, c2, c3⟩ := HB.out j hlt
      have c0 := hx.keepc c0
      have c1 := hx.keepc c1
      have c2 := hx.keepc c2
      have c3 := hx.keepc c3
      have heq := eqT (gt S j).1 (gt S j).1 (gt S j).2.1 (gt S j).2.1
      have hL := HL.out
      generalize (gt S j).1 = t1 at *
      generalize (gt S j).2.1 = t2 at *
      have hs63 : (j : Int) + 1 ≤ 100000 := by omega
      have HS63 : Hid ((j : Int) + 1 ≤ 100000) := hs63
      clear hL hs63
      go_upto_region 6 with fail
      go_quiet (fail)
      have X : Hid (Ext w (wr.drewN nq)) := hx.trans (drewN_ext nq)
      have hj2 : (j : Int) ≤ 9223372036854775806 := by have := HS63.out; omega
      go_wp2_with fail
      go_roundw
      case measure => simp [intOf]; omega
      case rel => exact ⟨j + 1, by omega, by simp, X.out⟩
    · have hjx : ¬ (j : Int) < (S.length : Int) := by omega
      go_wp2_with fail
      go_ret
      exact ⟨rfl, hx⟩
theorem take_one {S : List Tm} {j : Nat} (hj : j < S.length) : S.take (j + 1) = S.take j ++ [gt S j] := by
  rw [List.take_add_one, gt_at hj, Option.toList_some]
set_option maxRecDepth 20000 in
set_option maxHeartbeats 4000000 in
theorem copy_timers {S : List Tm} (u : Value) (w : World) (hu : Rd w u S) (hS : S.length ≤ 100000) :
    Calls Try.prog 21 #[u] w fun e w' => ∃ r, e = .returned r ∧ w'.ownsRow w.heap.size Ea 2 r S.length (flat2 S) ∧ Ext w w' := by
  obtain ⟨i0, hi, hz0, hz1, hz2⟩ := info_parts Try.infoTa
  obtain ⟨a, cap, rfl, ha⟩ := hu
  have HA : Hid (∀ j, j < S.length → ∃ b off, a = some ⟨b, off, none⟩ ∧ w.cell? ⟨b, off + j * 2, none⟩ = some (.int .i64 (gt S j).1) ∧ w.cell? ⟨b, off + j * 2 + 1, none⟩ = some (.int .i64 (gt S j).2.1)) := ha
  have HL : Hid (S.length ≤ 100000) := hS
  clear ha hS
  go_enter Try.func21, Try.ntmps21
  go_wp2_with fail
  go_loopw [3, 4] (fun s3 s4 wr => ∃ (j : Nat) (r : Option Addr) (c : Nat), j ≤ S.length ∧ s4 = .int .i64 j ∧ s3 = .slice r j c ∧ Hid (wr.ownsRow w.heap.size Ea 2 (.slice r j c) j (flat2 (S.take j)) ∧ Ext w wr)) (fun _ s4 _ => S.length - (intOf s4).toNat)
  case atStart => exact ⟨0, none, 0, Nat.zero_le _, rfl, rfl, World.ownsRow_nil _ _ _ _, Ext.refl _⟩
  case round =>
    obtain ⟨j, r, c, hj, rfl, rfl, hR⟩ := hrel
    by_cases hlt : j < S.length
    · have hjx : (j : Int) < (S.length : Int) := by omega
      obtain ⟨b1, o1, rfl, c0, c1⟩ := HA.out j hlt
      have c0 := hR.out.2.keepc c0
      have c1 := hR.out.2.keepc c1
      have hL := HL.out
      have ht := take_one hlt
      have HT : Hid (flat2 (S.take (j + 1)) = flat2 (S.take j) ++ [.int .i64 (gt S j).1, .int .i64 (gt S j).2.1]) := by show _ = _; rw [ht, flat2_app]; rfl
      clear ht
      generalize (gt S j).1 = t1 at *
      generalize (gt S j).2.1 = t2 at *
      have hown := hR.out.1
      have HB : Hid (w.heap.size ≤ wr.heap.size) := hR.out.2.size
      have hb : w.heap.size ≤ wr.heap.size + 1 := by have := HB.out; omega
      have h63 : j + 1 ≤ maxLen := by unfold maxLen; omega
      have hby : (j + 1) * 16 ≤ 140737488355328 := by omega
      clear hL
      go_wp2_with (at_builtin; refine wpList_append_lies _ rfl (.tmp 11) (.tmp 16) 26 rfl w.heap.size Ea i0 (.agg #[.int .i64 0, .int .i64 0]) 2 16 Try.underlying26 hi hz0 hz1 hz2 rfl (by decide) _ j (flat2 (S.take j)) rfl (by exact hown.alloc _) ⟨wr.heap.size, 0, none⟩ 1 1 [.int .i64 t1, .int .i64 t2] rfl rfl (by exact two_new wr _ _ _) (by simp [Value.oneCell']) (by decide) h63 hby (by simpa using hb) (wr.heap.size + 1) (by simp) ?_; intro g' cap' w2 hown' hg' hgb hgl; have R1 : Hid (w2.ownsRow w.heap.size Ea 2 (.slice (some ⟨g', 0, none⟩) (j + 1) cap') (j + 1) (flat2 (S.take (j + 1))) ∧ Ext w w2) := (by refine ⟨?_, row_grown hg' (hown.alloc _) (hR.out.2.alloc _) (Nat.le_refl _)⟩; rw [HT.out]; exact hown'); clear hown' hg' hgb hgl hown)
      have hj2 : (j : Int) ≤ 9223372036854775806 := by omega
      go_roundw
      case measure => simp [intOf]; omega
      case rel => exact ⟨j + 1, _, cap', by omega, by simp, rfl, R1⟩
    · have hjx : ¬ (j : Int) < (S.length : Int) := by omega
      have hjs : j = S.length := by omega
      have HF : Hid (wr.ownsRow w.heap.size Ea 2 (.slice r S.length c) S.length (flat2 S) ∧ Ext w wr) := by
        obtain ⟨q1, q2⟩ := hR.out
        rw [List.take_of_length_le (by omega)] at q1
        rw [hjs] at q1
        exact ⟨q1, q2⟩
      go_wp2_with fail
      go_ret
      exact ⟨_, rfl, HF.out.1, HF.out.2⟩
/-- a row of timers, whatever it holds -/
def Row (w : World) (B : Nat) (v : Value) (n : Nat) : Prop := ∃ xs : List Tm, xs.length = n ∧ w.ownsRow B Ea 2 v n (flat2 xs)
theorem flat2_set : ∀ (xs : List Tm) (k : Nat) (t : Tm), flat2 (xs.set k t) = ((flat2 xs).set (k * 2) (.int .i64 t.1)).set (k * 2 + 1) (.int .i64 t.2.1)
  | [], k, t => by simp [flat2]
  | s :: l, 0, t => by simp [flat2]
  | s :: l, k + 1, t => by
    rw [show (k + 1) * 2 = k * 2 + 1 + 1 by omega]
    simp [flat2, flat2_set l k t]
set_option maxRecDepth 20000 in
set_option maxHeartbeats 4000000 in
theorem spoil_timers {B n : Nat} (v : Value) (w : World) (h : Row w B v n) (hn : n ≤ 100000) :
    Calls Try.prog 14 #[v] w fun e w' => (∃ u, e = .returned u) ∧ Turn (fun k => v.ownBlock = some k) w w' := by
  obtain ⟨i0, hi, hz0, hz1, hz2⟩ := info_parts Try.infoTa
  obtain ⟨a, cap, rfl⟩ : ∃ a cap, v = .slice a n cap := by
    obtain ⟨xs, _, h⟩ := h
    rcases h.2 with ⟨e1, e2⟩ | ⟨g, cap, cur, e1, _⟩
    · exact ⟨none, 0, by rw [e1, e2]⟩
    · exact ⟨_, _, e1⟩
  have H0 : Hid (Row w 0 (.slice a n cap) n) := by obtain ⟨xs, h1, h⟩ := h; exact ⟨xs, h1, row_mono h (Nat.zero_le _)⟩
  have HL : Hid (n ≤ 100000) := hn
  clear h hn
  go_enter Try.func14, Try.ntmps14
  go_wp2_with fail
  go_loopw [2] (fun s2 wr => ∃ j : Nat, j ≤ n ∧ s2 = .int .i64 j ∧ Hid (Row wr 0 (.slice a n cap) n ∧ Turn (fun k => (Value.slice a n cap).ownBlock = some k) w wr)) (fun s2 _ => n - (intOf s2).toNat)
  case atStart => exact ⟨0, Nat.zero_le _, rfl, H0.out, Turn.refl _ _⟩
  case round =>
    obtain ⟨j, hj, rfl, hR⟩ := hrel
    obtain ⟨⟨xs, hxl, hrow⟩, ht⟩ := hR.out
    by_cases hlt : j < n
    · have hjx : (j : Int) < (n : Int) := by omega
      obtain ⟨g, cap', e, _, _⟩ := hrow.form (by omega)
      simp only [Value.slice.injEq, true_and] at e
      obtain ⟨rfl, rfl⟩ := e
      subst hxl
      obtain ⟨f0, f1⟩ := flat2_at xs j hlt
      have c0 : wr.cell? ⟨g, j * 2, none⟩ = some (.int .i64 (gt xs j).1) := by rw [hrow.cellAt _ (by omega)]; exact f0
      have c1 : wr.cell? ⟨g, j * 2 + 1, none⟩ = some (.int .i64 (gt xs j).2.1) := by rw [hrow.cellAt _ (by omega)]; exact f1
      have z0 := hrow.frozenAt (j * 2)
      have z1 := hrow.frozenAt (j * 2 + 1)
      have R1 : Hid (Row ((wr.setCell ⟨g, j * 2, none⟩ (.int .i64 99)).setCell ⟨g, j * 2 + 1, none⟩ (.int .i64 0)) 0 (.slice (some ⟨g, 0, none⟩) xs.length cap) xs.length ∧ Turn (fun k => (Value.slice (some ⟨g, 0, none⟩) xs.length cap).ownBlock = some k) w ((wr.setCell ⟨g, j * 2, none⟩ (.int .i64 99)).setCell ⟨g, j * 2 + 1, none⟩ (.int .i64 0))) := by
        refine ⟨⟨xs.set j (99, 0, 0), by simp, ?_⟩, (ht.set (q := g) rfl _ _).set (q := g) rfl _ _⟩
        rw [flat2_set]
        exact ((hrow.stored _ _).1.stored _ _).1
      have hj2 : (j : Int) ≤ 9223372036854775806 := by have := HL.out; omega
      clear hR hrow ht f0 f1
      generalize (gt xs j).1 = t1 at *
      generalize (gt xs j).2.1 = t2 at *
      go_wp2_with fail
      go_roundw
      case measure => simp [intOf]; omega
      case rel => exact ⟨j + 1, by omega, by simp, R1⟩
    · have hjx : ¬ (j : Int) < (n : Int) := by omega
      have hL := HL.out
      have h63 : n + 1 ≤ maxLen := by unfold maxLen; omega
      have hby : (n + 1) * 16 ≤ 140737488355328 := by omega
      clear hL
      go_wp2_with (at_builtin; refine wpList_append_lies _ rfl (.tmp 13) (.tmp 15) 26 rfl 0 Ea i0 (.agg #[.int .i64 0, .int .i64 0]) 2 16 Try.underlying26 hi hz0 hz1 hz2 rfl (by decide) _ n (flat2 xs) rfl (by exact hrow.alloc _) ⟨wr.heap.size, 0, none⟩ 1 1 [.int .i64 0, .int .i64 0] rfl rfl (by exact two_new wr _ _ _) (by simp [Value.oneCell']) (by decide) h63 hby (Nat.zero_le _) (wr.heap.size + 1) (by simp) ?_; intro g' cap' w2 hown' hg' hgb hgl; have R1 : Hid (Turn (fun k => (Value.slice a n cap).ownBlock = some k) w w2) := (ht.alloc _).grown hg' (fun k hk => .inl hk); clear hown' hg' hgb hgl)
      go_end0
      exact ⟨⟨_, rfl⟩, R1.out⟩
end Go.Proofs.Ytiallnpmgdjdfaa
