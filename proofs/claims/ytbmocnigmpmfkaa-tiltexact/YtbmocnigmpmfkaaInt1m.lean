/- The reference's whole numbers with a sign: Made, Size, From, Sign, Neg. -/
import Derived.Test.YtbmocnigmpmfkaaBig8m
namespace Go.Proofs.Ytbmocnigmpmfkaa
open Go.RowKit

theorem IsN.zero_iff {w : World} {v : Value} {n : Nat} (h : IsN w v n) : ∃ a l cap, v = .slice a l cap ∧ (l = 0 ↔ n = 0) ∧ l = (Dig.digs 18446744073709551616 n).length := by
  obtain ⟨a, cap, hv, _⟩ := Row.shape h
  refine ⟨a, _, cap, hv, ⟨fun h0 => Dig.digs_nil _ n (by omega) (List.eq_nil_of_length_eq_zero h0), fun h0 => by rw [h0]; rfl⟩, rfl⟩

theorem Ext.frozen2 {w w' : World} {u v : Value} {T : TypeId} (h : Ext (w.alloc (.cells #[u, v] T)) w') : w'.frozen? ⟨w.heap.size, 0, none⟩ = false ∧ w'.frozen? ⟨w.heap.size, 1, none⟩ = false := by
  obtain ⟨_, hf, _⟩ := h.lay
  constructor
  · rw [hf _ _ (by simp)]; simp [go_sem]
  · rw [hf _ _ (by simp)]; simp [go_sem]

set_option maxHeartbeats 400000 in
theorem made_any (neg : Bool) (u : Value) (n : Nat) (w : World) (h : IsN w u n) (hs : Small n) :
    Calls Try.prog 49 #[.bool neg, u] w fun e w' => e = .returned (.agg #[.bool (neg && decide (0 < n)), u]) ∧ Ext w w' := by
  obtain ⟨a, l, cap, rfl, hz, hl⟩ := h.zero_iff
  have hl' : l ≤ 1000 := by have := hs.1; omega
  have hd : Hid (decide ((0 : Int) < (l : Int)) = decide (0 < n)) := by show _ = _; rw [decide_eq_decide]; omega
  clear hz hl h hs
  cases neg
  · go_enter Try.func49, Try.ntmps49
    go_wp2_with fail
    exact bodyPost_ret (v := .agg #[.bool false, .slice a l cap]) (by simp [results, Try.results49, go_sem]) rfl ⟨rfl, (Ext.refl _).alloc _⟩
  · go_enter Try.func49, Try.ntmps49
    go_wp2_with fail
    have e : (true && decide (0 < n)) = decide (0 < l) := by rw [Bool.true_and, ← hd.out, decide_eq_decide]; omega
    rw [e]
    exact bodyPost_ret (v := .agg #[.bool (decide (0 < l)), .slice a l cap]) (by simp [results, Try.results49, go_sem]) rfl ⟨rfl, (Ext.refl _).alloc _⟩

theorem size_neg2 (v : Int) (h1 : -9223372036854775808 ≤ v) (h : v < 0) : IntKind.u64.wrap (0 - IntKind.u64.wrap v) = (v.natAbs : Int) := by
  simp only [IntKind.wrap_u64]; omega
theorem size_neg3 (v : Int) (h1 : -9223372036854775808 ≤ v) (h : v < 0) : IntKind.u64.wrap (-IntKind.u64.wrap v) = (v.natAbs : Int) := by
  simp only [IntKind.wrap_u64]; omega

set_option maxHeartbeats 400000 in
theorem rsize_any (v : Int) (w : World) (h1 : -9223372036854775808 ≤ v) (h2 : v ≤ 9223372036854775807) :
    Calls Try.prog 72 #[.int .i64 v] w fun e w' => e = .returned (.int .u64 (v.natAbs : Int)) ∧ w' = w := by
  by_cases h : v < 0
  · go_enter Try.func72, Try.ntmps72
    go_wp2
    go_ret
    exact ⟨ret_int (by first | exact size_neg2 v h1 h | exact size_neg3 v h1 h), rfl⟩
  · go_enter Try.func72, Try.ntmps72
    go_wp2
    go_ret
    exact ⟨ret_int (by omega), rfl⟩

/-- v is the number z -/
def IsI (w : World) (v : Value) (z : Int) : Prop := ∃ u, v = .agg #[.bool (decide (z < 0)), u] ∧ IsN w u z.natAbs
theorem IsI.ext {w w' : World} {v : Value} {z : Int} (h : IsI w v z) (hx : Ext w w') : IsI w' v z := by
  obtain ⟨u, h1, h2⟩ := h
  exact ⟨u, h1, h2.ext hx⟩
def SmallI (z : Int) : Prop := Small z.natAbs
theorem isI_made (w : World) (neg : Bool) (u : Value) (n : Nat) (h : IsN w u n) : IsI w (.agg #[.bool (neg && decide (0 < n)), u]) (if neg then -(n : Int) else (n : Int)) := by
  refine ⟨u, ?_, ?_⟩
  · cases neg
    · simp
    · simp
  · cases neg <;> simpa using h
theorem small_64 (n : Nat) (h : n < 18446744073709551616) : Small n := by
  refine ⟨?_, ?_⟩
  · have := Dig.digs_length_le 18446744073709551616 (by omega) n 1 (by simpa using h); omega
  · have e : (4294967296 : Nat) ^ 2 = 18446744073709551616 := by decide
    have := Dig.digs_length_le 4294967296 (by omega) n 2 (by omega)
    omega

theorem IsN.isSlice {w : World} {v : Value} {n : Nat} (h : IsN w v n) : ∃ a l cap, v = .slice a l cap := by
  obtain ⟨a, l, c, hv, _⟩ := h.zero_iff
  exact ⟨a, l, c, hv⟩
theorem Row.set {k : IntKind} {w : World} {v : Value} {xs : List Nat} (h : Row k w v xs) {g j : Nat} {c : Value} (x : Value) (hc : w.cell? ⟨g, j, none⟩ = some c) (hn : ∀ k z, c ≠ .int k z) : Row k (w.setCell ⟨g, j, none⟩ x) v xs := by
  rcases h with h | ⟨b, o, cap, h1, h2, h3, h4⟩
  · exact .inl h
  · refine .inr ⟨b, o, cap, h1, h2, h3, fun i hi => ?_⟩
    have h5 := h4 i hi
    have hne : (⟨b, o + i, none⟩ : Addr) ≠ ⟨g, j, none⟩ := by
      intro e
      rw [e, hc] at h5
      exact hn _ _ (Option.some.inj h5)
    rw [World.cell?_setCell_other _ _ _ _ hne.symm]
    exact h5
theorem IsI.set {w : World} {v : Value} {z : Int} (h : IsI w v z) {g j : Nat} {c x : Value} (hc : w.cell? ⟨g, j, none⟩ = some c) (hn : ∀ k z, c ≠ .int k z) : IsI (w.setCell ⟨g, j, none⟩ x) v z := by
  obtain ⟨u, h1, h2⟩ := h
  exact ⟨u, h1, Row.set h2 x hc hn⟩

theorem IsI.set2 {w : World} {v : Value} {z : Int} (h : IsI w v z) {g : Nat} {b0 : Bool} {a : Option Addr} {l c : Nat} {x y : Value} (c0 : w.cell? ⟨g, 0, none⟩ = some (.bool b0)) (c1 : w.cell? ⟨g, 1, none⟩ = some (.slice a l c)) :
    IsI ((w.setCell ⟨g, 0, none⟩ x).setCell ⟨g, 1, none⟩ y) v z := by
  refine (h.set c0 (by simp)).set (c := .slice a l c) ?_ (by simp)
  rw [World.cell?_setCell_other _ _ _ _ (by simp)]
  exact c1

set_option maxHeartbeats 1000000 in
theorem from_any (v : Int) (w : World) (h1 : -9223372036854775808 ≤ v) (h2 : v ≤ 9223372036854775807) :
    Calls Try.prog 55 #[.int .i64 v] w fun e w' => (∃ r, e = .returned r ∧ IsI w' r v) ∧ Ext w w' := by
  have HS : Hid (∀ w, Calls Try.prog 72 #[.int .i64 v] w fun e w' => e = .returned (.int .u64 (v.natAbs : Int)) ∧ w' = w) := fun w => rsize_any v w h1 h2
  have HN : Hid (∀ w, Calls Try.prog 37 #[.int .u64 (v.natAbs : Int)] w fun e w' => (∃ v', e = .returned v' ∧ IsN w' v' v.natAbs) ∧ Ext w w') := fun w => nof_any v.natAbs (by omega) w
  have HM : Hid (∀ u w, IsN w u v.natAbs → Calls Try.prog 49 #[.bool (decide (v < 0)), u] w fun e w' => e = .returned (.agg #[.bool (decide (v < 0) && decide (0 < v.natAbs)), u]) ∧ Ext w w') := fun u w h => made_any _ u v.natAbs w h (small_64 _ (by omega))
  have HF : Hid (∀ u w, IsN w u v.natAbs → IsI w (.agg #[.bool (decide (v < 0) && decide (0 < v.natAbs)), u]) v) := by
    intro u w h
    have k := isI_made w (decide (v < 0)) u _ h
    have e : (if decide (v < 0) = true then -(v.natAbs : Int) else (v.natAbs : Int)) = v := by
      by_cases hv : v < 0
      · simp [hv]; omega
      · simp [hv]; omega
    rw [e] at k
    exact k
  clear h1 h2
  generalize (v.natAbs : Int) = a at *
  generalize (decide (v < 0) && decide (0 < v.natAbs)) = B at *
  generalize v.natAbs = n at *
  go_enter Try.func55, Try.ntmps55
  go_wp2_with fail
  refine (HS.out _).mono ?_
  rintro e wx ⟨rfl, hwx⟩
  have hwy := hwx.symm
  clear hwx
  subst hwy
  go_wp2_with fail
  refine (HN.out _).mono ?_
  rintro e w1 ⟨⟨u, rfl, hu⟩, x1⟩
  go_wp2_with fail
  refine (HM.out _ _ hu).mono ?_
  rintro e w2 ⟨rfl, x2⟩
  have x3 := x1.trans x2
  obtain ⟨au, lu, cu, rfl⟩ := hu.isSlice
  obtain ⟨c0, c1⟩ := x3.cells2
  obtain ⟨f0, f1⟩ := x3.frozen2
  have X : Hid (Ext w w2) := ((Ext.refl _).alloc _).trans x3
  have HI : Hid (IsI w2 (.agg #[.bool B, .slice au lu cu]) v) := HF.out _ w2 (hu.ext x2)
  clear x1 x2 x3 hu HS HN HM HF
  go_wp2_with fail
  exact bodyPost_ret (v := .agg #[.bool B, .slice au lu cu]) (by simp [results, Try.results55, go_sem, c0, c1]) rfl ⟨⟨_, rfl, HI.out.set2 c0 c1⟩, (X.out.setCell (Nat.le_refl _) _).setCell (Nat.le_refl _) _⟩

set_option maxHeartbeats 1000000 in
theorem neg_isI (z : Int) (r : Value) (w : World) (h : IsI w r z) (hs : SmallI z) :
    Calls Try.prog 79 #[r] w fun e w' => (∃ r', e = .returned r' ∧ IsI w' r' (-z)) ∧ Ext w w' := by
  obtain ⟨u, rfl, hu⟩ := h
  have HM : Hid (∀ w', Ext w w' → Calls Try.prog 49 #[.bool (!decide (z < 0)), u] w' fun e w'' => e = .returned (.agg #[.bool (!decide (z < 0) && decide (0 < z.natAbs)), u]) ∧ Ext w' w'') := fun w' hx => made_any _ u _ w' (hu.ext hx) hs
  have HF : Hid (∀ w', Ext w w' → IsI w' (.agg #[.bool (!decide (z < 0) && decide (0 < z.natAbs)), u]) (-z)) := by
    intro w' hx
    have k := isI_made w' (!decide (z < 0)) u _ (hu.ext hx)
    have e : (if (!decide (z < 0)) = true then -(z.natAbs : Int) else (z.natAbs : Int)) = -z := by
      by_cases hv : z < 0
      · simp [hv]; omega
      · simp [hv]; omega
    rw [e] at k
    exact k
  obtain ⟨au, lu, cu, rfl⟩ := hu.isSlice
  clear hu hs
  generalize (!decide (z < 0) && decide (0 < z.natAbs)) = B at *
  generalize decide (z < 0) = b at *
  go_enter Try.func79, Try.ntmps79
  go_wp2_with fail
  refine (HM.out _ (((Ext.refl w).alloc _).alloc _)).mono ?_
  rintro e w2 ⟨rfl, x3⟩
  have s1 := x3.cells2
  have s2 := x3.frozen2
  simp only [World.size_alloc] at s1 s2
  obtain ⟨c0, c1⟩ := s1
  obtain ⟨f0, f1⟩ := s2
  have X : Hid (Ext w w2) := (((Ext.refl w).alloc _).alloc _).trans x3
  have HI : Hid (IsI w2 (.agg #[.bool B, .slice au lu cu]) (-z)) := HF.out w2 X.out
  clear x3 HM HF
  go_wp2_with fail
  exact bodyPost_ret (v := .agg #[.bool B, .slice au lu cu]) (by simp [results, Try.results79, go_sem, c0, c1]) rfl ⟨⟨_, rfl, HI.out.set2 c0 c1⟩, (X.out.setCell (by simp) _).setCell (by simp) _⟩

def sgn (z : Int) : Int := if z < 0 then -1 else if z = 0 then 0 else 1
set_option maxHeartbeats 400000 in
theorem sign_isI (z : Int) (r : Value) (w : World) (h : IsI w r z) (hs : SmallI z) :
    Calls Try.prog 76 #[r] w fun e w' => e = .returned (.int .i64 (sgn z)) ∧ Ext w w' := by
  obtain ⟨u, rfl, hu⟩ := h
  obtain ⟨a, l, cap, rfl, hz, hl⟩ := hu.zero_iff
  have hl' : l ≤ 1000 := by have := hs.1; omega
  by_cases h1 : z < 0
  · have e1 : Hid (-1 = sgn z) := by show _ = _; unfold sgn; rw [if_pos h1]
    have e2 : decide (z < 0) = true := decide_eq_true h1
    rw [e2]
    clear hl hz hu hs h1 e2
    go_enter Try.func76, Try.ntmps76
    go_wp2_with fail
    go_ret
    exact ⟨ret_int e1.out, (Ext.refl _).alloc _⟩
  · have e2 : decide (z < 0) = false := decide_eq_false h1
    rw [e2]
    by_cases h0 : l = 0
    · have e1 : Hid (0 = sgn z) := by show _ = _; unfold sgn; rw [if_neg h1, if_pos (by have := hz.1 h0; omega)]
      subst h0
      clear hz hl hu hs h1 e2
      go_enter Try.func76, Try.ntmps76
      go_wp2_with fail
      go_ret
      exact ⟨ret_int e1.out, (Ext.refl _).alloc _⟩
    · have e1 : Hid (1 = sgn z) := by show _ = _; unfold sgn; rw [if_neg h1, if_neg (fun h => h0 (hz.2 (by omega)))]
      have hp : (0 : Int) < (l : Int) := by omega
      clear hz hl hu hs h1 e2
      go_enter Try.func76, Try.ntmps76
      go_wp2_with fail
      go_ret
      exact ⟨ret_int e1.out, (Ext.refl _).alloc _⟩
end Go.Proofs.Ytbmocnigmpmfkaa
