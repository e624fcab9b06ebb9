/- What the statements of layer 8 share. -/
import Derived.Test.YtfgljkeohoffiaaGr
namespace Go.Proofs.Ytfgljkeohoffiaa
open Go.RowKit Go.Conc
set_option maxHeartbeats 400000 in
theorem num_any (v : Int) (w : World) :
    Calls Try.prog 8 #[.int .i64 v] w fun e w' => e = .returned (.int .i64 v) ∧ w' = w := by
  go_enter Try.func8, Try.ntmps8
  go_wp2
  go_ret
  exact ⟨rfl, rfl⟩
theorem within_num (i : Int) (n : Nat) (hn : 0 < n) (h2 : n ≤ 1000) : ∃ q : Nat, q < n ∧ (IntKind.u64.wrap i) % (n : Int) = (q : Int) := by
  refine ⟨((IntKind.u64.wrap i) % (n : Int)).toNat, ?_, ?_⟩
  · have := Int.emod_lt_of_pos (IntKind.u64.wrap i) (b := (n : Int)) (by omega)
    omega
  · have := Int.emod_nonneg (IntKind.u64.wrap i) (b := (n : Int)) (by omega)
    omega
set_option maxHeartbeats 400000 in
theorem within_any (i : Int) (n : Nat) (hn : 0 < n) (h2 : n ≤ 1000) : ∃ q : Nat, q < n ∧ ∀ w, Calls Try.prog 11 #[.int .i64 i, .int .i64 n] w fun e w' => e = .returned (.int .i64 q) ∧ w' = w := by
  obtain ⟨q, hq, he⟩ := within_num i n hn h2
  refine ⟨q, hq, fun w => ?_⟩
  have hne : (n : Int) ≠ 0 := by omega
  have HE : Hid ((IntKind.u64.wrap i) % (n : Int) = (q : Int)) := he
  clear he
  go_enter Try.func11, Try.ntmps11
  go_wp2
  go_ret
  refine ⟨ret_int ?_, rfl⟩
  have h0 : 0 ≤ IntKind.u64.wrap i := by rw [IntKind.wrap_u64]; omega
  rw [Int.tmod_eq_emod_of_nonneg h0, HE.out]
  unfold wrap64; omega
/-- bytes that can be read -/
def RdB (w : World) (v : Value) (l : List Int) : Prop := ∃ a c, v = .slice a l.length c ∧ ∀ j, j < l.length → ∃ b off, a = some ⟨b, off, none⟩ ∧ w.cell? ⟨b, off + j, none⟩ = some (.int .u8 (l.getD j 0))
theorem RdB.ext {w w' : World} {v : Value} {l : List Int} (h : RdB w v l) (x : Ext w w') : RdB w' v l := by
  obtain ⟨a, c, e, h⟩ := h
  refine ⟨a, c, e, fun j hj => ?_⟩
  obtain ⟨b, off, e2, h2⟩ := h j hj
  exact ⟨b, off, e2, x.keepc h2⟩
theorem rdb_row {w : World} {B : Nat} {v : Value} {l : List Int} (h : w.ownsRow B Eb 1 v l.length (bv l)) : RdB w v l := by
  obtain ⟨a, c, rfl⟩ := row_form h
  refine ⟨a, c, rfl, fun j hj => ?_⟩
  obtain ⟨g, c', e, h2⟩ := row_some h (by omega)
  cases e
  exact ⟨g, 0, rfl, by rw [Nat.zero_add]; exact h2 j hj⟩
theorem RdB.tn {own : Nat → Prop} {w w' : World} {v : Value} {l : List Int} (h : RdB w v l) (t : Tn own w w') (ho : ∀ k, v.ownBlock = some k → ¬ own k) : RdB w' v l := by
  obtain ⟨a, c, e, h⟩ := h
  subst e
  refine ⟨a, c, rfl, fun j hj => ?_⟩
  obtain ⟨b, off, e2, h2⟩ := h j hj
  exact ⟨b, off, e2, t.keepc (ho b (by rw [e2]; rfl)) h2⟩
set_option maxHeartbeats 2000000 in
theorem eq_bytes {l : List Int} (u v : Value) (w : World) (hu : RdB w u l) (hv : RdB w v l) (hS : l.length ≤ 100000) :
    Calls Try.prog 28 #[u, v] w fun e w' => e = .returned (.bool true) ∧ Ext w w' := by
  obtain ⟨a, cap, rfl, ha⟩ := hu
  obtain ⟨b, cap', rfl, hb⟩ := hv
  have HA : Hid (∀ j, j < l.length → ∃ b off, a = some ⟨b, off, none⟩ ∧ w.cell? ⟨b, off + j, none⟩ = some (.int .u8 (l.getD j 0))) := ha
  have HB : Hid (∀ j, j < l.length → ∃ b' off, b = some ⟨b', off, none⟩ ∧ w.cell? ⟨b', off + j, none⟩ = some (.int .u8 (l.getD j 0))) := hb
  have HL : Hid (l.length ≤ 100000) := hS
  clear ha hb hS
  go_enter Try.func28, Try.ntmps28
  go_wp2_with fail
  go_loopw [5] (fun s5 wr => ∃ j : Nat, j ≤ l.length ∧ s5 = .int .i64 j ∧ Ext w wr) (fun s5 _ => l.length - (intOf s5).toNat)
  case atStart => exact ⟨0, Nat.zero_le _, rfl, Ext.refl _⟩
  case round =>
    obtain ⟨j, hj, rfl, hx⟩ := hrel
    by_cases hlt : j < l.length
    · have hjx : (j : Int) < (l.length : Int) := by omega
      obtain ⟨b1, o1, rfl, c0⟩ := HA.out j hlt
      obtain ⟨b2, o2, rfl, c2⟩ := HB.out j hlt
      have c0 := hx.keepc c0
      have c2 := hx.keepc c2
      have hL := HL.out
      generalize l.getD j 0 = t1 at *
      have hs63 : (j : Int) + 1 ≤ 100000 := by omega
      have HS63 : Hid ((j : Int) + 1 ≤ 100000) := hs63
      clear hL hs63
      go_upto_region 6 with fail
      go_quiet (fail)
      have X : Hid (Ext w (wr.drewN nq)) := hx.trans (drewN_ext nq)
      have hj2 : (j : Int) ≤ 9223372036854775806 := by have := HS63.out; omega
      go_wp2_with fail
      go_roundw
      case measure => simp [intOf]; omega
      case rel => exact ⟨j + 1, by omega, by simp, X.out⟩
    · have hjx : ¬ (j : Int) < (l.length : Int) := by omega
      go_wp2_with fail
      go_ret
      exact ⟨rfl, hx⟩
abbrev ansV (st : Int) (v : Value) : Value := .agg #[.int .i64 st, v]
set_option maxRecDepth 20000 in
set_option maxHeartbeats 2000000 in
theorem eq_answer {l : List Int} (st : Int) (a : Option Addr) (c : Nat) (a' : Option Addr) (c' : Nat) (w : World) (hu : RdB w (.slice a l.length c) l) (hv : RdB w (.slice a' l.length c') l) (hS : l.length ≤ 100000) :
    Calls Try.prog 19 #[ansV st (.slice a l.length c), ansV st (.slice a' l.length c')] w fun e w' => e = .returned (.bool true) ∧ Ext w w' := by
  have x : Ext w ((w.alloc (.cells #[.int .i64 st, .slice a l.length c] 57)).alloc (.cells #[.int .i64 st, .slice a' l.length c'] 57)) := ((Ext.refl w).alloc _).alloc _
  have HE := eq_bytes _ _ _ (hu.ext x) (hv.ext x) hS
  go_enter Try.func19, Try.ntmps19
  go_wp2_with (go_at_call 28; refine HE.mono ?_; rintro e w1 ⟨rfl, x1⟩)
  go_ret
  exact ⟨rfl, x.trans x1⟩
set_option maxHeartbeats 400000 in
theorem in_any (x a b : Int) (w : World) : Calls Try.prog 26 #[.int .i64 x, .int .i64 a, .int .i64 b] w fun e w' => e = .returned (.bool (inn x a b)) ∧ w' = w := by
  by_cases h1 : a ≤ x
  · by_cases h2 : x ≤ b
    · have e : Hid (inn x a b = true) := inn_iff.2 ⟨h1, h2⟩
      go_enter Try.func26, Try.ntmps26
      go_wp2
      go_ret
      rw [e.out]; exact ⟨rfl, rfl⟩
    · have e : Hid (inn x a b = false) := inn_not.2 (fun h => h2 h.2)
      go_enter Try.func26, Try.ntmps26
      go_wp2
      go_ret
      rw [e.out]; exact ⟨rfl, rfl⟩
  · have e : Hid (inn x a b = false) := inn_not.2 (fun h => h1 h.1)
    go_enter Try.func26, Try.ntmps26
    go_wp2
    go_ret
    rw [e.out]; exact ⟨rfl, rfl⟩
set_option maxRecDepth 20000 in
set_option maxHeartbeats 2000000 in
theorem mayraw_any (r : Raw) (w : World) : Calls Try.prog 27 #[rv r] w fun e w' => e = .returned (.bool (okR r)) ∧ Ext w w' := by
  have hx : Ext w (w.alloc (cells4 r)) := (Ext.refl w).alloc _
  have HX : Hid (∀ w, Calls Try.prog 26 #[.int .i64 r.x, .int .i64 (-32768), .int .i64 32767] w fun e w' => e = .returned (.bool (inn r.x (-32768) 32767)) ∧ w' = w) := in_any r.x _ _
  have HY : Hid (∀ w, Calls Try.prog 26 #[.int .i64 r.y, .int .i64 (-32768), .int .i64 32767] w fun e w' => e = .returned (.bool (inn r.y (-32768) 32767)) ∧ w' = w) := in_any r.y _ _
  have HZ : Hid (∀ w, Calls Try.prog 26 #[.int .i64 r.z, .int .i64 (-32768), .int .i64 32767] w fun e w' => e = .returned (.bool (inn r.z (-32768) 32767)) ∧ w' = w) := in_any r.z _ _
  have HT : Hid (∀ w, Calls Try.prog 26 #[.int .i64 r.t, .int .i64 (-128), .int .i64 127] w fun e w' => e = .returned (.bool (inn r.t (-128) 127)) ∧ w' = w) := in_any r.t _ _
  unfold okR
  obtain ⟨x, y, z, t⟩ := r
  cases h1 : inn x (-32768) 32767 <;> cases h2 : inn y (-32768) 32767 <;> cases h3 : inn z (-32768) 32767 <;> cases h4 : inn t (-128) 127
  all_goals
    rw [h1] at HX; rw [h2] at HY; rw [h3] at HZ; rw [h4] at HT
    clear h1 h2 h3 h4
    go_enter Try.func27, Try.ntmps27
    go_wp2_with (first | (go_at_call_of 26 (Value.int IntKind.i64 x); refine (HX.out _).mono ?_; rintro e w' ⟨rfl, rfl⟩) | (go_at_call_of 26 (Value.int IntKind.i64 y); refine (HY.out _).mono ?_; rintro e w' ⟨rfl, rfl⟩) | (go_at_call_of 26 (Value.int IntKind.i64 z); refine (HZ.out _).mono ?_; rintro e w' ⟨rfl, rfl⟩) | (go_at_call_of 26 (Value.int IntKind.i64 t); refine (HT.out _).mono ?_; rintro e w' ⟨rfl, rfl⟩))
    go_ret
    exact ⟨rfl, hx⟩
end Go.Proofs.Ytfgljkeohoffiaa
