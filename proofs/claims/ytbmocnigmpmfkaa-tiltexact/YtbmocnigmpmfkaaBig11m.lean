/- The reference's whole numbers: NDivide. -/
import Derived.Test.YtbmocnigmpmfkaaBig9bm
import Derived.Test.YtbmocnigmpmfkaaMg33
import Derived.Test.YtbmocnigmpmfkaaInt3m
namespace Go.Proofs.Ytbmocnigmpmfkaa
open Go.RowKit

theorem small_le {m n : Nat} (h : Small m) (hn : n ≤ m) : Small n := by
  have k1 := Dig.val_lt 18446744073709551616 _ (Dig.okd 18446744073709551616 m (by omega))
  have k2 := Dig.val_lt 4294967296 _ (Dig.okd 4294967296 m (by omega))
  rw [Dig.vald 18446744073709551616 m (by omega)] at k1
  rw [Dig.vald 4294967296 m (by omega)] at k2
  exact ⟨Nat.le_trans (Dig.digs_length_le _ (by omega) n _ (Nat.lt_of_le_of_lt hn k1)) h.1, Nat.le_trans (Dig.digs_length_le _ (by omega) n _ (Nat.lt_of_le_of_lt hn k2)) h.2⟩

set_option maxHeartbeats 4000000 in
theorem ndivide_short (m b : Nat) (v1 v2 : Value) (w : World) (h1 : IsN w v1 m) (h2 : IsN w v2 b) (s1 : Small m) (s2 : Small b) (hl : (Dig.digs 4294967296 b).length = 1) :
    Calls Try.prog 48 #[v1, v2] w fun e w' => (∃ q r, e = .returned (.tuple #[q, r]) ∧ IsN w' q (m / b) ∧ IsN w' r (m % b)) ∧ Ext w w' := by
  have hbb := Dig.length_bounds 4294967296 b 0 (by omega) hl
  have hb1 : 1 ≤ b := by simpa using hbb.1
  have hb2 : b < 4294967296 := by simpa using hbb.2
  have hd0 : (Dig.digs 4294967296 b).getD 0 0 = b := by rw [Dig.digs_getD _ (by omega), Nat.pow_zero, Nat.div_one, Nat.mod_eq_of_lt hb2]
  have H1 : Hid (∀ w', Ext w w' → Calls Try.prog 65 #[v2] w' fun e w'' => (∃ v', e = .returned v' ∧ Row .u32 w'' v' (Dig.digs 4294967296 b)) ∧ Ext w' w'') := fun w' hx => halves_any b v2 w' (h2.ext hx) s2.1
  have H2 : Hid (∀ w', Ext w w' → Calls Try.prog 65 #[v1] w' fun e w'' => (∃ v', e = .returned v' ∧ Row .u32 w'' v' (Dig.digs 4294967296 m)) ∧ Ext w' w'') := fun w' hx => halves_any m v1 w' (h1.ext hx) s1.1
  have H3 : Hid (∀ v w, Row .u32 w v (Dig.digs 4294967296 m) → Calls Try.prog 66 #[v, .int .u32 (b : Int)] w fun e w' => (∃ v', e = .returned (.tuple #[v', .int .u32 ((m % b : Nat) : Int)]) ∧ Row .u32 w' v' (Dig.digs 4294967296 (m / b))) ∧ Ext w w') := fun v w hr => short_any m b v w hr s1.2 hb1 hb2
  have H4 : Hid (∀ v w, Row .u32 w v (Dig.digs 4294967296 (m / b)) → Calls Try.prog 67 #[v] w fun e w' => (∃ v', e = .returned v' ∧ IsN w' v' (m / b)) ∧ Ext w w') := fun v w hr => by
    have h := whole_any _ v w hr (Dig.okd _ _ (by omega)) (by have := (small_le s1 (Nat.div_le_self m b)).2; omega)
    rw [Dig.vald _ _ (by omega)] at h
    exact h
  have hmb : m % b < 4294967296 := Nat.lt_trans (Nat.mod_lt _ hb1) hb2
  have H5 : Hid (∀ w, Calls Try.prog 37 #[.int .u64 ((m % b : Nat) : Int)] w fun e w' => (∃ v', e = .returned v' ∧ IsN w' v' (m % b)) ∧ Ext w w') := fun w => nof_any (m % b) (by omega) w
  obtain ⟨a1, l1, c1, e1⟩ := h1.isSlice
  obtain ⟨a2, l2, c2, e2⟩ := h2.isSlice
  subst e1 e2
  clear h1 h2 s1 s2 hbb hb1
  obtain ⟨xs, hxs⟩ : ∃ xs, Dig.digs 4294967296 b = xs := ⟨_, rfl⟩
  rw [hxs] at H1 hl hd0
  clear hxs
  obtain ⟨Bb, gB⟩ : ∃ B : Int, (b : Int) = B := ⟨_, rfl⟩
  obtain ⟨Rr, gR, gR1, gR2⟩ : ∃ R : Int, ((m % b : Nat) : Int) = R ∧ 0 ≤ R ∧ R < 4294967296 := ⟨_, rfl, by omega, by omega⟩
  rw [gB, gR] at H3
  rw [gR] at H5
  have HQ : Hid (xs.getD 0 0 = b) := hd0
  have GB : Hid ((b : Int) = Bb) := gB
  have HL1 : Hid (xs.length = 1) := hl
  clear hd0 gB gR hmb hb2
  go_enter Try.func48, Try.ntmps48
  go_wp2_with fail
  refine (H1.out _ (Ext.refl _)).mono ?_
  rintro e w1 ⟨⟨y, rfl, hy⟩, x1⟩
  obtain ⟨ay, cy, rfl, gy⟩ := hy.shape
  obtain ⟨by', oy, rfl, hcell⟩ := gy (by omega)
  have hc0 := hcell 0 (by omega)
  rw [HQ.out, GB.out, Nat.add_zero] at hc0
  rw [HL1.out]
  clear hcell gy hy hl
  go_wp2_with fail
  go_region_with (first | (go_at_call 65; refine (H2.out _ (by first | exact x1 | exact x1.drew | exact x1.drew.drew | exact x1.drewN _)).mono ?_; rintro e w2 ⟨⟨x, rfl, hx⟩, x2⟩; have k0 := x2.kept hc0) | (go_at_call 66; refine (H3.out _ _ hx).mono ?_; rintro e w3 ⟨⟨q, rfl, hq⟩, x3⟩))
  all_goals
    have X3 : Hid (Ext w w3) := by first | exact (x1.trans x2).trans x3 | exact (x1.trans (cell_drew x2)).trans x3 | exact ((x1.drewN _).trans x2).trans x3 | exact (x1.drew.trans x2).trans x3
    clear x1 x2 x3 hx
    go_wp2_with fail
    refine (H4.out _ _ hq).mono ?_
    rintro e w4 ⟨⟨q', rfl, hq'⟩, x4⟩
    go_wp2_with fail
    refine (H5.out _).mono ?_
    rintro e w5 ⟨⟨r', rfl, hr'⟩, x5⟩
    go_wp2_with fail
    go_ret2
    exact ⟨⟨_, _, rfl, hq'.ext x5, hr'⟩, (X3.out.trans x4).trans x5⟩

set_option maxHeartbeats 4000000 in
theorem ndivide_less (m b : Nat) (v1 v2 : Value) (w : World) (h1 : IsN w v1 m) (h2 : IsN w v2 b) (s1 : Small m) (s2 : Small b) (hl : (Dig.digs 4294967296 b).length ≠ 1) (hlt : Dig.blen m < Dig.blen b) :
    Calls Try.prog 48 #[v1, v2] w fun e w' => (∃ q r, e = .returned (.tuple #[q, r]) ∧ IsN w' q (m / b) ∧ IsN w' r (m % b)) ∧ Ext w w' := by
  have hmb : m < b := by
    apply Nat.lt_of_not_le
    intro hle
    have := Dig.blen_le b _ (Nat.lt_of_le_of_lt hle (Dig.lt_blen m))
    omega
  have T1 : Dig.blen m ≤ 64000 := Dig.blen_bound m 1000 s1.1
  have T2 : Dig.blen b ≤ 64000 := Dig.blen_bound b 1000 s2.1
  have H1 : Hid (∀ w', Ext w w' → Calls Try.prog 65 #[v2] w' fun e w'' => (∃ v', e = .returned v' ∧ Row .u32 w'' v' (Dig.digs 4294967296 b)) ∧ Ext w' w'') := fun w' hx => halves_any b v2 w' (h2.ext hx) s2.1
  have H2 : Hid (∀ w', Ext w w' → Calls Try.prog 68 #[v1] w' fun e w'' => e = .returned (.int .i64 (Dig.blen m : Int)) ∧ w'' = w') := fun w' hx => nlen_any m v1 w' (h1.ext hx) s1
  have H3 : Hid (∀ w', Ext w w' → Calls Try.prog 68 #[v2] w' fun e w'' => e = .returned (.int .i64 (Dig.blen b : Int)) ∧ w'' = w') := fun w' hx => nlen_any b v2 w' (h2.ext hx) s2
  have E1 : Hid (m / b = 0) := Nat.div_eq_of_lt hmb
  have E2 : Hid (m % b = m) := Nat.mod_eq_of_lt hmb
  have HM : Hid (IsN w v1 m) := h1
  obtain ⟨a1, l1, c1, e1⟩ := h1.isSlice
  obtain ⟨a2, l2, c2, e2⟩ := h2.isSlice
  subst e1 e2
  have HS : Hid ((Dig.digs 4294967296 b).length ≤ 2000) := s2.2
  clear h1 h2 s1 s2 hmb
  generalize Dig.blen m = A at *
  generalize Dig.blen b = B at *
  generalize Dig.digs 4294967296 b = xs at *
  have hne : ((xs.length : Int) == 1) = false := by simp; omega
  have hA : (A : Int) < (B : Int) := by omega
  have hl2 : xs.length ≤ 2000 := HS.out
  clear hl
  go_enter Try.func48, Try.ntmps48
  go_wp2_with fail
  refine (H1.out _ (Ext.refl _)).mono ?_
  rintro e w1 ⟨⟨y, rfl, hy⟩, x1⟩
  obtain ⟨ay, cy, rfl, gy⟩ := hy.shape
  clear gy hy
  go_wp2_with fail
  refine (H2.out _ x1).mono ?_
  rintro e wx ⟨rfl, hwx⟩
  have hwy := hwx.symm
  clear hwx
  subst hwy
  go_wp2_with fail
  refine (H3.out _ x1).mono ?_
  rintro e wx ⟨rfl, hwx⟩
  have hwy := hwx.symm
  clear hwx
  subst hwy
  go_wp2_with fail
  go_ret2
  refine ⟨⟨_, _, rfl, .inl ⟨rfl, ?_⟩, ?_⟩, x1⟩
  · rw [E1.out]; rfl
  · rw [E2.out]; exact HM.out.ext x1
end Go.Proofs.Ytbmocnigmpmfkaa
