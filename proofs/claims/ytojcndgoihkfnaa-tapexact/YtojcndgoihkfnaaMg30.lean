/- The reference's whole numbers: short. Plain numbers: the division bit by bit. The reference's whole numbers with a sign: Made, Size, From, Sign, Neg. -/
import Derived.Test.YtojcndgoihkfnaaMg28
import Derived.Test.YtojcndgoihkfnaaBig7m
namespace Go.Proofs.Ytojcndgoihkfnaa
open Go.RowKit

def bound32 : Int := 4294967296
set_option maxHeartbeats 2000000 in
theorem short_any (m d : Nat) (v : Value) (w : World) (hr : Row .u32 w v (Dig.digs 4294967296 m)) (hs : (Dig.digs 4294967296 m).length ≤ 2000) (hd : 0 < d) (hd2 : d < 4294967296) :
    Calls Try.prog 96 #[v, .int .u32 (d : Int)] w fun e w' => (∃ v', e = .returned (.tuple #[v', .int .u32 ((m % d : Nat) : Int)]) ∧ Row .u32 w' v' (Dig.digs 4294967296 (m / d))) ∧ Ext w w' := by
  have hX : Hid (∀ t, (Dig.digs 4294967296 m).getD t 0 = m / 4294967296 ^ t % 4294967296) := fun t => Dig.digs_getD _ (by omega) t m
  have hlt : Hid (m < 4294967296 ^ (Dig.digs 4294967296 m).length) := by
    have := Dig.val_lt 4294967296 _ (Dig.okd 4294967296 m (by omega))
    rw [Dig.vald 4294967296 m (by omega)] at this
    exact this
  generalize Dig.digs 4294967296 m = xs at hr hs hX hlt
  obtain ⟨L, hL⟩ : ∃ L : Nat, Hid (xs.length = L) := ⟨_, rfl⟩
  have HC : Hid (∀ v w F, (∀ j, j < L → F j = m / d / 4294967296 ^ j % 4294967296) → Row .u32 w v ((List.range L).map F) → Calls Try.prog 99 #[v] w fun e w' => (∃ v', e = .returned v' ∧ Row .u32 w v' (Dig.digs 4294967296 (m / d))) ∧ w' = w) := by
    intro v w F hF hr
    have e : (List.range L).map F = Dig.digN 4294967296 (m / d) L := by
      unfold Dig.digN
      apply List.map_congr_left
      intro j hj
      exact hF j (List.mem_range.1 hj)
    rw [e] at hr
    have h := cut_any _ v w hr (Dig.digN_ok _ _ _ (by omega))
    rw [Dig.digN_done _ _ _ (by
      have := hlt.out
      rw [hL.out] at this
      exact Nat.lt_of_le_of_lt (Nat.div_le_self _ _) this)] at h
    exact h
  have R0 : Hid (m / 4294967296 ^ xs.length % d = 0) := by
    show _ = _
    rw [Nat.div_eq_of_lt hlt.out, Nat.zero_mod]
  have R1 : Hid (m / 4294967296 ^ 0 % d = m % d) := by show _ = _; rw [Nat.pow_zero, Nat.div_one]
  obtain ⟨ax, cx, rfl, gx⟩ := hr.shape
  rw [hL.out] at R0
  have GX : Hid _ := gx
  rw [hL.out] at hs ⊢
  have hmk := run_make_row' (P := Try.prog) 135 137 (.int .u32 0) 4 Try.underlying135 Try.info32 rfl .i64 .i64 L (by omega) (by omega)
  obtain ⟨D, gD, gD1, gD2⟩ : ∃ D : Int, (d : Int) = D ∧ 0 < D ∧ D < 4294967296 := ⟨_, rfl, by omega, by omega⟩
  have hD0 : (D == 0) = false := by simp; omega
  rw [gD]
  have ST : Hid (∀ t, (m / 4294967296 ^ (t + 1) % d * 4294967296 + m / 4294967296 ^ t % 4294967296) / d = m / d / 4294967296 ^ t % 4294967296 ∧ (m / 4294967296 ^ (t + 1) % d * 4294967296 + m / 4294967296 ^ t % 4294967296) % d = m / 4294967296 ^ t % d) := fun t => Dig.short_step m d t hd
  have RL : Hid (∀ t, m / 4294967296 ^ t % d < d) := fun t => Nat.mod_lt _ hd
  clear hr gx hlt
  go_enter Try.func96, Try.ntmps96
  go_wp2_with fail
  clear hmk
  go_loopw [7, 8] (fun r i wr => ∃ (t R : Nat) (F : Nat → Nat), t ≤ L ∧ i = .int .i64 ((t : Int) - 1) ∧ r = .int .u64 (R : Int) ∧ Hid (R = m / 4294967296 ^ t % d) ∧ Hid (∀ j, t ≤ j → j < L → F j = m / d / 4294967296 ^ j % 4294967296) ∧ wr.rowIs w.heap.size 137 L (f32 F) ∧ Ext w wr) (fun _ i _ => ((intOf i) + 1).toNat)
  case atStart => exact ⟨L, 0, fun _ => 0, Nat.le_refl _, rfl, rfl, R0.out.symm, fun j h1 h2 => by omega, World.rowIs_made _ _ _ _, (Ext.refl _).alloc _⟩
  case round =>
    obtain ⟨t, R, F, ht, rfl, rfl, hR, hF, hrow, hx⟩ := hrel
    cases t with
    | zero =>
      have hrw := row_of_is hrow (by omega)
      have HF : Hid (∀ j, j < L → F j = m / d / 4294967296 ^ j % 4294967296) := fun j hj => hF.out j (by omega) hj
      have hRl := RL.out 0
      rw [← hR.out] at hRl
      obtain ⟨r0, gr, gr1, gr2, gr3⟩ : ∃ r : Int, (R : Int) = r ∧ Hid (r = ((m % d : Nat) : Int)) ∧ 0 ≤ r ∧ r < 4294967296 := ⟨_, rfl, by show _ = _; rw [hR.out, R1.out], by omega, by omega⟩
      rw [gr]
      clear hR hF hrow gr hRl
      go_wp2_with fail
      refine (HC.out _ _ F HF.out hrw).mono ?_
      rintro e w4 ⟨⟨v3, rfl, hr3⟩, hw4⟩
      have hw4' := hw4.symm
      clear hw4
      subst hw4'
      clear hrw
      go_wp2_with fail
      go_ret2
      exact ⟨⟨_, by rw [← gr1.out]; rfl, hr3⟩, hx⟩
    | succ t =>
      obtain ⟨bx, ox, rfl, cx'⟩ := GX.out (by have := hL.out; omega)
      have hcx := (hx.lay).1 bx (ox + t) (cell_lt (cx' t (by have := hL.out; omega)))
      rw [cx' t (by have := hL.out; omega)] at hcx
      have et : ((t + 1 : Nat) : Int) - 1 = (t : Int) := by omega
      rw [et]
      have hXt := hX.out t
      rw [hXt] at hcx
      have hRl := RL.out (t + 1)
      rw [← hR.out] at hRl
      have hst := ST.out t
      rw [← hR.out] at hst
      have hxl : m / 4294967296 ^ t % 4294967296 < 4294967296 := Nat.mod_lt _ (by omega)
      obtain ⟨x, hxx⟩ : ∃ x : Nat, m / 4294967296 ^ t % 4294967296 = x := ⟨_, rfl⟩
      rw [hxx] at hcx hst hxl
      obtain ⟨X, gX, gX1, gX2⟩ : ∃ X : Int, (x : Int) = X ∧ 0 ≤ X ∧ X < 4294967296 := ⟨_, rfl, by omega, by omega⟩
      obtain ⟨r0, gr, gr1, gr2⟩ : ∃ r : Int, (R : Int) = r ∧ 0 ≤ r ∧ r < 4294967296 := ⟨_, rfl, by omega, by omega⟩
      have hor : bits BinOp.or IntKind.u64 (r0 * 4294967296) X = r0 * 4294967296 + X := by
        rw [← gr, ← gX]
        have := Num.or_shift R x 32 (by omega) (by simpa using hxl) (by simp; omega)
        simpa using this
      obtain ⟨S, gS, gS1, gS2⟩ : ∃ S : Int, r0 * 4294967296 + X = S ∧ 0 ≤ S ∧ S < 18446744073709551616 := ⟨_, rfl, by omega, by omega⟩
      rw [gS] at hor
      rw [gX] at hcx
      rw [gr]
      have htL : (t : Int) < (L : Int) := by omega
      have hcl := hrow.cell (show t < L by omega)
      have hfr := hrow.frozen t
      obtain ⟨Z, eZ, fZ⟩ : ∃ Z : Int, S / D % 4294967296 = Z ∧ Hid (Z = ((m / d / 4294967296 ^ t % 4294967296 : Nat) : Int)) := ⟨_, rfl, by
        show _ = _
        rw [← hst.1, ← gS, ← gr, ← gX, ← gD]
        have h1 : (R * 4294967296 + x) / d < 4294967296 := by rw [hst.1]; exact Nat.mod_lt _ (by omega)
        have e1 : (((R * 4294967296 + x) / d : Nat) : Int) = ((R : Int) * 4294967296 + (x : Int)) / (d : Int) := by simp
        rw [← e1]
        omega⟩
      obtain ⟨M, eM, fM⟩ : ∃ M : Int, S % D = M ∧ Hid (M = ((m / 4294967296 ^ t % d : Nat) : Int)) := ⟨_, rfl, by
        show _ = _
        rw [← hst.2, ← gS, ← gr, ← gX, ← gD]
        simp⟩
      have HR : Hid ((wr.setCell ⟨w.heap.size, t, none⟩ (.int .u32 Z)).rowIs w.heap.size 137 L (f32 (Dig.upd F t (m / d / 4294967296 ^ t % 4294967296)))) := by
        rw [fZ.out]
        exact is_upd hrow _ _
      have HX : Hid (Ext w (wr.setCell ⟨w.heap.size, t, none⟩ (.int .u32 Z))) := hx.setCell (Nat.le_refl _) _
      have HF : Hid (∀ j, t ≤ j → j < L → Dig.upd F t (m / d / 4294967296 ^ t % 4294967296) j = m / d / 4294967296 ^ j % 4294967296) := by
        intro j h1 h2
        unfold Dig.upd
        split
        · rename_i e; rw [e]
        · exact hF.out j (by omega) h2
      clear hXt hxx hX cx' et hst gS gr gX gD hF hR hrow
      go_wp2_with fail
      exact ⟨⟨t, _, _, by omega, rfl, congrArg (Value.int .u64) (eM.trans fM.out), rfl, HF, HR.out, HX.out⟩, by simp [intOf]⟩
end Go.Proofs.Ytojcndgoihkfnaa

namespace Go.Proofs.Ytojcndgoihkfnaa.Dig

theorem DRelQNum3.yes {m b L i Q r : Nat} {F : Nat → Nat} (h : DRelQNum3 m b L (i + 1) Q r F) (hr : b * 2 ^ i ≤ r) : DRelQNum3 m b L i (Q + 2 ^ i) (r - b * 2 ^ i) (upd F (i / 64) (F (i / 64) + 2 ^ (i % 64))) := by
  have hb := h.bit
  refine ⟨?_, ?_, ?_, ?_⟩
  · have := h.sum
    rw [Nat.mul_add]; omega
  · have := h.rest
    have e : b * 2 ^ (i + 1) = 2 * (b * 2 ^ i) := by rw [Nat.pow_succ, ← Nat.mul_assoc, Nat.mul_comm]
    omega
  · intro j
    unfold upd
    have h0 : ∀ j, 2 ^ i ∣ F j * 18446744073709551616 ^ j := fun j => Nat.dvd_trans (Nat.pow_dvd_pow 2 (by omega)) (h.low j)
    split
    · rename_i hj
      subst hj
      rw [Nat.add_mul]
      refine (Nat.dvd_add_right (h0 _)).2 ?_
      have e : (18446744073709551616 : Nat) = 2 ^ 64 := by decide
      rw [e, ← Nat.pow_mul, ← Nat.pow_add]
      exact Nat.pow_dvd_pow 2 (by omega)
    · exact h0 j
  · intro j
    unfold upd
    split
    · exact hb.2
    · exact h.dig j
theorem fval_yes (F : Nat → Nat) (L i Q : Nat) (hL : i / 64 < L) (hQ : fval 18446744073709551616 F L = Q) : fval 18446744073709551616 (upd F (i / 64) (F (i / 64) + 2 ^ (i % 64))) L = Q + 2 ^ i := by
  have h := fval_upd 18446744073709551616 F (i / 64) (F (i / 64) + 2 ^ (i % 64)) L hL
  rw [Nat.mul_add] at h
  have e : (18446744073709551616 : Nat) ^ (i / 64) * 2 ^ (i % 64) = 2 ^ i := by
    have e : (18446744073709551616 : Nat) = 2 ^ 64 := by decide
    rw [e, ← Nat.pow_mul, ← Nat.pow_add]; congr 1; omega
  rw [e, hQ] at h
  omega
theorem DRelQNum3.done {m b L Q r : Nat} {F : Nat → Nat} (h : DRelQNum3 m b L 0 Q r F) : Q = m / b ∧ r = m % b := by
  have h1 := h.sum
  have h2 := h.rest
  rw [Nat.pow_zero, Nat.mul_one] at h2
  have hb : 0 < b := by omega
  constructor
  · rw [h1, Nat.mul_add_div hb, Nat.div_eq_of_lt h2, Nat.add_zero]
  · rw [h1, Nat.mul_add_mod, Nat.mod_eq_of_lt h2]
end Go.Proofs.Ytojcndgoihkfnaa.Dig

namespace Go.Proofs.Ytojcndgoihkfnaa
open Go.RowKit

theorem IsN.zero_iff {w : World} {v : Value} {n : Nat} (h : IsN w v n) : ∃ a l cap, v = .slice a l cap ∧ (l = 0 ↔ n = 0) ∧ l = (Dig.digs 18446744073709551616 n).length := by
  obtain ⟨a, cap, hv, _⟩ := Row.shape h
  refine ⟨a, _, cap, hv, ⟨fun h0 => Dig.digs_nil _ n (by omega) (List.eq_nil_of_length_eq_zero h0), fun h0 => by rw [h0]; rfl⟩, rfl⟩

theorem Ext.frozen2 {w w' : World} {u v : Value} {T : TypeId} (h : Ext (w.alloc (.cells #[u, v] T)) w') : w'.frozen? ⟨w.heap.size, 0, none⟩ = false ∧ w'.frozen? ⟨w.heap.size, 1, none⟩ = false := by
  obtain ⟨_, hf, _⟩ := h.lay
  constructor
  · rw [hf _ _ (by simp)]; simp [go_sem]
  · rw [hf _ _ (by simp)]; simp [go_sem]

set_option maxHeartbeats 400000 in
theorem made_any (neg : Bool) (u : Value) (n : Nat) (w : World) (h : IsN w u n) (hs : Small n) :
    Calls Try.prog 70 #[.bool neg, u] w fun e w' => e = .returned (.agg #[.bool (neg && decide (0 < n)), u]) ∧ Ext w w' := by
  obtain ⟨a, l, cap, rfl, hz, hl⟩ := h.zero_iff
  have hl' : l ≤ 1000 := by have := hs.1; omega
  have hd : Hid (decide ((0 : Int) < (l : Int)) = decide (0 < n)) := by show _ = _; rw [decide_eq_decide]; omega
  clear hz hl h hs
  cases neg
  · go_enter Try.func70, Try.ntmps70
    go_wp2_with fail
    exact bodyPost_ret (v := .agg #[.bool false, .slice a l cap]) (by simp [results, Try.results70, go_sem]) rfl ⟨rfl, (Ext.refl _).alloc _⟩
  · go_enter Try.func70, Try.ntmps70
    go_wp2_with fail
    have e : (true && decide (0 < n)) = decide (0 < l) := by rw [Bool.true_and, ← hd.out, decide_eq_decide]; omega
    rw [e]
    exact bodyPost_ret (v := .agg #[.bool (decide (0 < l)), .slice a l cap]) (by simp [results, Try.results70, go_sem]) rfl ⟨rfl, (Ext.refl _).alloc _⟩

theorem size_neg2 (v : Int) (h1 : -9223372036854775808 ≤ v) (h : v < 0) : IntKind.u64.wrap (0 - IntKind.u64.wrap v) = (v.natAbs : Int) := by
  simp only [IntKind.wrap_u64]; omega
theorem size_neg3 (v : Int) (h1 : -9223372036854775808 ≤ v) (h : v < 0) : IntKind.u64.wrap (-IntKind.u64.wrap v) = (v.natAbs : Int) := by
  simp only [IntKind.wrap_u64]; omega

set_option maxHeartbeats 400000 in
theorem rsize_any (v : Int) (w : World) (h1 : -9223372036854775808 ≤ v) (h2 : v ≤ 9223372036854775807) :
    Calls Try.prog 75 #[.int .i64 v] w fun e w' => e = .returned (.int .u64 (v.natAbs : Int)) ∧ w' = w := by
  by_cases h : v < 0
  · go_enter Try.func75, Try.ntmps75
    go_wp2
    go_ret
    exact ⟨ret_int (by first | exact size_neg2 v h1 h | exact size_neg3 v h1 h), rfl⟩
  · go_enter Try.func75, Try.ntmps75
    go_wp2
    go_ret
    exact ⟨ret_int (by omega), rfl⟩

/-- v is the number z -/
def IsI (w : World) (v : Value) (z : Int) : Prop := ∃ u, v = .agg #[.bool (decide (z < 0)), u] ∧ IsN w u z.natAbs
theorem IsI.ext {w w' : World} {v : Value} {z : Int} (h : IsI w v z) (hx : Ext w w') : IsI w' v z := by
  obtain ⟨u, h1, h2⟩ := h
  exact ⟨u, h1, h2.ext hx⟩
def SmallI (z : Int) : Prop := Small z.natAbs
theorem isI_made (w : World) (neg : Bool) (u : Value) (n : Nat) (h : IsN w u n) : IsI w (.agg #[.bool (neg && decide (0 < n)), u]) (if neg then -(n : Int) else (n : Int)) := by
  refine ⟨u, ?_, ?_⟩
  · cases neg
    · simp
    · simp
  · cases neg <;> simpa using h
theorem small_64 (n : Nat) (h : n < 18446744073709551616) : Small n := by
  refine ⟨?_, ?_⟩
  · have := Dig.digs_length_le 18446744073709551616 (by omega) n 1 (by simpa using h); omega
  · have e : (4294967296 : Nat) ^ 2 = 18446744073709551616 := by decide
    have := Dig.digs_length_le 4294967296 (by omega) n 2 (by omega)
    omega

theorem IsN.isSlice {w : World} {v : Value} {n : Nat} (h : IsN w v n) : ∃ a l cap, v = .slice a l cap := by
  obtain ⟨a, l, c, hv, _⟩ := h.zero_iff
  exact ⟨a, l, c, hv⟩
theorem Row.set {k : IntKind} {w : World} {v : Value} {xs : List Nat} (h : Row k w v xs) {g j : Nat} {c : Value} (x : Value) (hc : w.cell? ⟨g, j, none⟩ = some c) (hn : ∀ k z, c ≠ .int k z) : Row k (w.setCell ⟨g, j, none⟩ x) v xs := by
  rcases h with h | ⟨b, o, cap, h1, h2, h3, h4⟩
  · exact .inl h
  · refine .inr ⟨b, o, cap, h1, h2, h3, fun i hi => ?_⟩
    have h5 := h4 i hi
    have hne : (⟨b, o + i, none⟩ : Addr) ≠ ⟨g, j, none⟩ := by
      intro e
      rw [e, hc] at h5
      exact hn _ _ (Option.some.inj h5)
    rw [World.cell?_setCell_other _ _ _ _ hne.symm]
    exact h5
theorem IsI.set {w : World} {v : Value} {z : Int} (h : IsI w v z) {g j : Nat} {c x : Value} (hc : w.cell? ⟨g, j, none⟩ = some c) (hn : ∀ k z, c ≠ .int k z) : IsI (w.setCell ⟨g, j, none⟩ x) v z := by
  obtain ⟨u, h1, h2⟩ := h
  exact ⟨u, h1, Row.set h2 x hc hn⟩

theorem IsI.set2 {w : World} {v : Value} {z : Int} (h : IsI w v z) {g : Nat} {b0 : Bool} {a : Option Addr} {l c : Nat} {x y : Value} (c0 : w.cell? ⟨g, 0, none⟩ = some (.bool b0)) (c1 : w.cell? ⟨g, 1, none⟩ = some (.slice a l c)) :
    IsI ((w.setCell ⟨g, 0, none⟩ x).setCell ⟨g, 1, none⟩ y) v z := by
  refine (h.set c0 (by simp)).set (c := .slice a l c) ?_ (by simp)
  rw [World.cell?_setCell_other _ _ _ _ (by simp)]
  exact c1

set_option maxHeartbeats 1000000 in
theorem from_any (v : Int) (w : World) (h1 : -9223372036854775808 ≤ v) (h2 : v ≤ 9223372036854775807) :
    Calls Try.prog 51 #[.int .i64 v] w fun e w' => (∃ r, e = .returned r ∧ IsI w' r v) ∧ Ext w w' := by
  have HS : Hid (∀ w, Calls Try.prog 75 #[.int .i64 v] w fun e w' => e = .returned (.int .u64 (v.natAbs : Int)) ∧ w' = w) := fun w => rsize_any v w h1 h2
  have HN : Hid (∀ w, Calls Try.prog 63 #[.int .u64 (v.natAbs : Int)] w fun e w' => (∃ v', e = .returned v' ∧ IsN w' v' v.natAbs) ∧ Ext w w') := fun w => nof_any v.natAbs (by omega) w
  have HM : Hid (∀ u w, IsN w u v.natAbs → Calls Try.prog 70 #[.bool (decide (v < 0)), u] w fun e w' => e = .returned (.agg #[.bool (decide (v < 0) && decide (0 < v.natAbs)), u]) ∧ Ext w w') := fun u w h => made_any _ u v.natAbs w h (small_64 _ (by omega))
  have HF : Hid (∀ u w, IsN w u v.natAbs → IsI w (.agg #[.bool (decide (v < 0) && decide (0 < v.natAbs)), u]) v) := by
    intro u w h
    have k := isI_made w (decide (v < 0)) u _ h
    have e : (if decide (v < 0) = true then -(v.natAbs : Int) else (v.natAbs : Int)) = v := by
      by_cases hv : v < 0
      · simp [hv]; omega
      · simp [hv]; omega
    rw [e] at k
    exact k
  clear h1 h2
  generalize (v.natAbs : Int) = a at *
  generalize (decide (v < 0) && decide (0 < v.natAbs)) = B at *
  generalize v.natAbs = n at *
  go_enter Try.func51, Try.ntmps51
  go_wp2_with fail
  refine (HS.out _).mono ?_
  rintro e wx ⟨rfl, hwx⟩
  have hwy := hwx.symm
  clear hwx
  subst hwy
  go_wp2_with fail
  refine (HN.out _).mono ?_
  rintro e w1 ⟨⟨u, rfl, hu⟩, x1⟩
  go_wp2_with fail
  refine (HM.out _ _ hu).mono ?_
  rintro e w2 ⟨rfl, x2⟩
  have x3 := x1.trans x2
  obtain ⟨au, lu, cu, rfl⟩ := hu.isSlice
  obtain ⟨c0, c1⟩ := x3.cells2
  obtain ⟨f0, f1⟩ := x3.frozen2
  have X : Hid (Ext w w2) := ((Ext.refl _).alloc _).trans x3
  have HI : Hid (IsI w2 (.agg #[.bool B, .slice au lu cu]) v) := HF.out _ w2 (hu.ext x2)
  clear x1 x2 x3 hu HS HN HM HF
  go_wp2_with fail
  exact bodyPost_ret (v := .agg #[.bool B, .slice au lu cu]) (by simp [results, Try.results51, go_sem, c0, c1]) rfl ⟨⟨_, rfl, HI.out.set2 c0 c1⟩, (X.out.setCell (Nat.le_refl _) _).setCell (Nat.le_refl _) _⟩

set_option maxHeartbeats 1000000 in
theorem neg_isI (z : Int) (r : Value) (w : World) (h : IsI w r z) (hs : SmallI z) :
    Calls Try.prog 47 #[r] w fun e w' => (∃ r', e = .returned r' ∧ IsI w' r' (-z)) ∧ Ext w w' := by
  obtain ⟨u, rfl, hu⟩ := h
  have HM : Hid (∀ w', Ext w w' → Calls Try.prog 70 #[.bool (!decide (z < 0)), u] w' fun e w'' => e = .returned (.agg #[.bool (!decide (z < 0) && decide (0 < z.natAbs)), u]) ∧ Ext w' w'') := fun w' hx => made_any _ u _ w' (hu.ext hx) hs
  have HF : Hid (∀ w', Ext w w' → IsI w' (.agg #[.bool (!decide (z < 0) && decide (0 < z.natAbs)), u]) (-z)) := by
    intro w' hx
    have k := isI_made w' (!decide (z < 0)) u _ (hu.ext hx)
    have e : (if (!decide (z < 0)) = true then -(z.natAbs : Int) else (z.natAbs : Int)) = -z := by
      by_cases hv : z < 0
      · simp [hv]; omega
      · simp [hv]; omega
    rw [e] at k
    exact k
  obtain ⟨au, lu, cu, rfl⟩ := hu.isSlice
  clear hu hs
  generalize (!decide (z < 0) && decide (0 < z.natAbs)) = B at *
  generalize decide (z < 0) = b at *
  go_enter Try.func47, Try.ntmps47
  go_wp2_with fail
  refine (HM.out _ (((Ext.refl w).alloc _).alloc _)).mono ?_
  rintro e w2 ⟨rfl, x3⟩
  have s1 := x3.cells2
  have s2 := x3.frozen2
  simp only [World.size_alloc] at s1 s2
  obtain ⟨c0, c1⟩ := s1
  obtain ⟨f0, f1⟩ := s2
  have X : Hid (Ext w w2) := (((Ext.refl w).alloc _).alloc _).trans x3
  have HI : Hid (IsI w2 (.agg #[.bool B, .slice au lu cu]) (-z)) := HF.out w2 X.out
  clear x3 HM HF
  go_wp2_with fail
  exact bodyPost_ret (v := .agg #[.bool B, .slice au lu cu]) (by simp [results, Try.results47, go_sem, c0, c1]) rfl ⟨⟨_, rfl, HI.out.set2 c0 c1⟩, (X.out.setCell (by simp) _).setCell (by simp) _⟩

def sgn (z : Int) : Int := if z < 0 then -1 else if z = 0 then 0 else 1
set_option maxHeartbeats 400000 in
theorem sign_isI (z : Int) (r : Value) (w : World) (h : IsI w r z) (hs : SmallI z) :
    Calls Try.prog 92 #[r] w fun e w' => e = .returned (.int .i64 (sgn z)) ∧ Ext w w' := by
  obtain ⟨u, rfl, hu⟩ := h
  obtain ⟨a, l, cap, rfl, hz, hl⟩ := hu.zero_iff
  have hl' : l ≤ 1000 := by have := hs.1; omega
  by_cases h1 : z < 0
  · have e1 : Hid (-1 = sgn z) := by show _ = _; unfold sgn; rw [if_pos h1]
    have e2 : decide (z < 0) = true := decide_eq_true h1
    rw [e2]
    clear hl hz hu hs h1 e2
    go_enter Try.func92, Try.ntmps92
    go_wp2_with fail
    go_ret
    exact ⟨ret_int e1.out, (Ext.refl _).alloc _⟩
  · have e2 : decide (z < 0) = false := decide_eq_false h1
    rw [e2]
    by_cases h0 : l = 0
    · have e1 : Hid (0 = sgn z) := by show _ = _; unfold sgn; rw [if_neg h1, if_pos (by have := hz.1 h0; omega)]
      subst h0
      clear hz hl hu hs h1 e2
      go_enter Try.func92, Try.ntmps92
      go_wp2_with fail
      go_ret
      exact ⟨ret_int e1.out, (Ext.refl _).alloc _⟩
    · have e1 : Hid (1 = sgn z) := by show _ = _; unfold sgn; rw [if_neg h1, if_neg (fun h => h0 (hz.2 (by omega)))]
      have hp : (0 : Int) < (l : Int) := by omega
      clear hz hl hu hs h1 e2
      go_enter Try.func92, Try.ntmps92
      go_wp2_with fail
      go_ret
      exact ⟨ret_int e1.out, (Ext.refl _).alloc _⟩
end Go.Proofs.Ytojcndgoihkfnaa
