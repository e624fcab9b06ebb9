/- The reference's whole numbers with a sign: Made, Size, From, Sign, Neg. The reference's whole numbers with a sign: Plus, Less, Times, Cmp, Left. The reference's whole numbers with a sign: Less, Cmp, Left. The reference's whole numbers: NDivide. -/
import Derived.Test.YtoeecldhbabmbaaGreatMg32
import Derived.Deep.RegionHeld
import Derived.Test.YtoeecldhbabmbaaGreatMg33
open Go.Value renaming int → J, agg → zG
open Go.IntKind renaming i64 → zq, u64 → zu
open Go.Ending renaming returned → zR
open Go.Proofs.Tryz renaming prog → zP
namespace Go.Proofs.YtoeecldhbabmbaaGreat
open Go.RowKit
theorem IsN.zero_iff {w : World} {v : Value} {n : Nat} (h : IsN w v n) : ∃ a l cap, v = .slice a l cap ∧ (l = 0 ↔ n = 0) ∧ l = (Dig.digs 18446744073709551616 n).length := by
  obtain ⟨a, cap, hv, _⟩ := Row.shape h
  refine ⟨a, _, cap, hv, ⟨fun h0 => Dig.digs_nil _ n (by omega) (List.eq_nil_of_length_eq_zero h0), fun h0 => by rw [h0]; rfl⟩, rfl⟩
theorem Ext.frozen2 {w w' : World} {u v : Value} {T : TypeId} (h : Ext (w.alloc (.cells #[u, v] T)) w') : w'.frozen? ⟨w.heap.size, 0, none⟩ = false ∧ w'.frozen? ⟨w.heap.size, 1, none⟩ = false := by
  obtain ⟨_, hf, _⟩ := h.lay
  constructor
  · rw [hf _ _ (by simp)]; simp [go_sem]
  · rw [hf _ _ (by simp)]; simp [go_sem]
set_option maxHeartbeats 400000 in
theorem made_any (neg : Bool) (u : Value) (n : Nat) (w : World) (h : IsN w u n) (hs : Small n) :
    Calls zP 56 #[.bool neg, u] w fun e w' => e = zR (zG #[.bool (neg && decide (0 < n)), u]) ∧ Ext w w' := by
  obtain ⟨a, l, cap, rfl, hz, hl⟩ := h.zero_iff
  have hl' : l ≤ 1000 := by have := hs.1; omega
  have hd : Hid (decide ((0 : Int) < (l : Int)) = decide (0 < n)) := by show _ = _; rw [decide_eq_decide]; omega
  clear hz hl h hs
  cases neg
  · go_enter Tryz.func56, Tryz.ntmps56
    go_wp2_with fail
    exact bodyPost_ret (v := zG #[.bool false, .slice a l cap]) (by simp [results, Tryz.results56, go_sem]) rfl ⟨rfl, (Ext.refl _).alloc _⟩
  · go_enter Tryz.func56, Tryz.ntmps56
    go_wp2_with fail
    have e : (true && decide (0 < n)) = decide (0 < l) := by rw [Bool.true_and, ← hd.out, decide_eq_decide]; omega
    rw [e]
    exact bodyPost_ret (v := zG #[.bool (decide (0 < l)), .slice a l cap]) (by simp [results, Tryz.results56, go_sem]) rfl ⟨rfl, (Ext.refl _).alloc _⟩
theorem size_neg2 (v : Int) (h1 : -9223372036854775808 ≤ v) (h : v < 0) : IntKind.u64.wrap (0 - IntKind.u64.wrap v) = (v.natAbs : Int) := by
  simp only [IntKind.wrap_u64]; omega
theorem size_neg3 (v : Int) (h1 : -9223372036854775808 ≤ v) (h : v < 0) : IntKind.u64.wrap (-IntKind.u64.wrap v) = (v.natAbs : Int) := by
  simp only [IntKind.wrap_u64]; omega
set_option maxHeartbeats 400000 in
theorem rsize_any (v : Int) (w : World) (h1 : -9223372036854775808 ≤ v) (h2 : v ≤ 9223372036854775807) :
    Calls zP 58 #[J zq v] w fun e w' => e = zR (J zu (v.natAbs : Int)) ∧ w' = w := by
  by_cases h : v < 0
  · go_enter Tryz.func58, Tryz.ntmps58
    go_wp2
    go_ret
    exact ⟨ret_int (by first | exact size_neg2 v h1 h | exact size_neg3 v h1 h), rfl⟩
  · go_enter Tryz.func58, Tryz.ntmps58
    go_wp2
    go_ret
    exact ⟨ret_int (by omega), rfl⟩
def IsI (w : World) (v : Value) (z : Int) : Prop := ∃ u, v = zG #[.bool (decide (z < 0)), u] ∧ IsN w u z.natAbs
theorem IsI.ext {w w' : World} {v : Value} {z : Int} (h : IsI w v z) (hx : Ext w w') : IsI w' v z := by
  obtain ⟨u, h1, h2⟩ := h
  exact ⟨u, h1, h2.ext hx⟩
def SmallI (z : Int) : Prop := Small z.natAbs
theorem isI_made (w : World) (neg : Bool) (u : Value) (n : Nat) (h : IsN w u n) : IsI w (zG #[.bool (neg && decide (0 < n)), u]) (if neg then -(n : Int) else (n : Int)) := by
  refine ⟨u, ?_, ?_⟩
  · cases neg
    · simp
    · simp
  · cases neg <;> simpa using h
theorem small_64 (n : Nat) (h : n < 18446744073709551616) : Small n := by
  refine ⟨?_, ?_⟩
  · have := Dig.digs_length_le 18446744073709551616 (by omega) n 1 (by simpa using h); omega
  · have e : (4294967296 : Nat) ^ 2 = 18446744073709551616 := by decide
    have := Dig.digs_length_le 4294967296 (by omega) n 2 (by omega)
    omega
theorem IsN.isSlice {w : World} {v : Value} {n : Nat} (h : IsN w v n) : ∃ a l cap, v = .slice a l cap := by
  obtain ⟨a, l, c, hv, _⟩ := h.zero_iff
  exact ⟨a, l, c, hv⟩
theorem Row.set {k : IntKind} {w : World} {v : Value} {xs : List Nat} (h : Row k w v xs) {g j : Nat} {c : Value} (x : Value) (hc : w.cell? ⟨g, j, none⟩ = some c) (hn : ∀ k z, c ≠ .int k z) : Row k (w.setCell ⟨g, j, none⟩ x) v xs := by
  rcases h with h | ⟨b, o, cap, h1, h2, h3, h4⟩
  · exact .inl h
  · refine .inr ⟨b, o, cap, h1, h2, h3, fun i hi => ?_⟩
    have h5 := h4 i hi
    have hne : (⟨b, o + i, none⟩ : Addr) ≠ ⟨g, j, none⟩ := by
      intro e
      rw [e, hc] at h5
      exact hn _ _ (Option.some.inj h5)
    rw [World.cell?_setCell_other _ _ _ _ hne.symm]
    exact h5
theorem IsI.set {w : World} {v : Value} {z : Int} (h : IsI w v z) {g j : Nat} {c x : Value} (hc : w.cell? ⟨g, j, none⟩ = some c) (hn : ∀ k z, c ≠ .int k z) : IsI (w.setCell ⟨g, j, none⟩ x) v z := by
  obtain ⟨u, h1, h2⟩ := h
  exact ⟨u, h1, Row.set h2 x hc hn⟩
theorem IsI.set2 {w : World} {v : Value} {z : Int} (h : IsI w v z) {g : Nat} {b0 : Bool} {a : Option Addr} {l c : Nat} {x y : Value} (c0 : w.cell? ⟨g, 0, none⟩ = some (.bool b0)) (c1 : w.cell? ⟨g, 1, none⟩ = some (.slice a l c)) :
    IsI ((w.setCell ⟨g, 0, none⟩ x).setCell ⟨g, 1, none⟩ y) v z := by
  refine (h.set c0 (by simp)).set (c := .slice a l c) ?_ (by simp)
  rw [World.cell?_setCell_other _ _ _ _ (by simp)]
  exact c1
set_option maxHeartbeats 1000000 in
theorem from_any (v : Int) (w : World) (h1 : -9223372036854775808 ≤ v) (h2 : v ≤ 9223372036854775807) :
    Calls zP 24 #[J zq v] w fun e w' => (∃ r, e = zR r ∧ IsI w' r v) ∧ Ext w w' := by
  have HS : Hid (∀ w, Calls zP 58 #[J zq v] w fun e w' => e = zR (J zu (v.natAbs : Int)) ∧ w' = w) := fun w => rsize_any v w h1 h2
  have HN : Hid (∀ w, Calls zP 57 #[J zu (v.natAbs : Int)] w fun e w' => (∃ v', e = zR v' ∧ IsN w' v' v.natAbs) ∧ Ext w w') := fun w => nof_any v.natAbs (by omega) w
  have HM : Hid (∀ u w, IsN w u v.natAbs → Calls zP 56 #[.bool (decide (v < 0)), u] w fun e w' => e = zR (zG #[.bool (decide (v < 0) && decide (0 < v.natAbs)), u]) ∧ Ext w w') := fun u w h => made_any _ u v.natAbs w h (small_64 _ (by omega))
  have HF : Hid (∀ u w, IsN w u v.natAbs → IsI w (zG #[.bool (decide (v < 0) && decide (0 < v.natAbs)), u]) v) := by
    intro u w h
    have k := isI_made w (decide (v < 0)) u _ h
    have e : (if decide (v < 0) = true then -(v.natAbs : Int) else (v.natAbs : Int)) = v := by
      by_cases hv : v < 0
      · simp [hv]; omega
      · simp [hv]; omega
    rw [e] at k
    exact k
  clear h1 h2
  generalize (v.natAbs : Int) = a at *
  generalize (decide (v < 0) && decide (0 < v.natAbs)) = B at *
  generalize v.natAbs = n at *
  go_enter Tryz.func24, Tryz.ntmps24
  go_wp2_with fail
  refine (HS.out _).mono ?_
  rintro e wx ⟨rfl, hwx⟩
  have hwy := hwx.symm
  clear hwx
  subst hwy
  go_wp2_with fail
  refine (HN.out _).mono ?_
  rintro e w1 ⟨⟨u, rfl, hu⟩, x1⟩
  go_wp2_with fail
  refine (HM.out _ _ hu).mono ?_
  rintro e w2 ⟨rfl, x2⟩
  have x3 := x1.trans x2
  obtain ⟨au, lu, cu, rfl⟩ := hu.isSlice
  obtain ⟨c0, c1⟩ := x3.cells2
  obtain ⟨f0, f1⟩ := x3.frozen2
  have X : Hid (Ext w w2) := ((Ext.refl _).alloc _).trans x3
  have HI : Hid (IsI w2 (zG #[.bool B, .slice au lu cu]) v) := HF.out _ w2 (hu.ext x2)
  clear x1 x2 x3 hu HS HN HM HF
  go_wp2_with fail
  exact bodyPost_ret (v := zG #[.bool B, .slice au lu cu]) (by simp [results, Tryz.results24, go_sem, c0, c1]) rfl ⟨⟨_, rfl, HI.out.set2 c0 c1⟩, (X.out.setCell (Nat.le_refl _) _).setCell (Nat.le_refl _) _⟩
set_option maxHeartbeats 1000000 in
theorem neg_isI (z : Int) (r : Value) (w : World) (h : IsI w r z) (hs : SmallI z) :
    Calls zP 94 #[r] w fun e w' => (∃ r', e = zR r' ∧ IsI w' r' (-z)) ∧ Ext w w' := by
  obtain ⟨u, rfl, hu⟩ := h
  have HM : Hid (∀ w', Ext w w' → Calls zP 56 #[.bool (!decide (z < 0)), u] w' fun e w'' => e = zR (zG #[.bool (!decide (z < 0) && decide (0 < z.natAbs)), u]) ∧ Ext w' w'') := fun w' hx => made_any _ u _ w' (hu.ext hx) hs
  have HF : Hid (∀ w', Ext w w' → IsI w' (zG #[.bool (!decide (z < 0) && decide (0 < z.natAbs)), u]) (-z)) := by
    intro w' hx
    have k := isI_made w' (!decide (z < 0)) u _ (hu.ext hx)
    have e : (if (!decide (z < 0)) = true then -(z.natAbs : Int) else (z.natAbs : Int)) = -z := by
      by_cases hv : z < 0
      · simp [hv]; omega
      · simp [hv]; omega
    rw [e] at k
    exact k
  obtain ⟨au, lu, cu, rfl⟩ := hu.isSlice
  clear hu hs
  generalize (!decide (z < 0) && decide (0 < z.natAbs)) = B at *
  generalize decide (z < 0) = b at *
  go_enter Tryz.func94, Tryz.ntmps94
  go_wp2_with fail
  refine (HM.out _ (((Ext.refl w).alloc _).alloc _)).mono ?_
  rintro e w2 ⟨rfl, x3⟩
  have s1 := x3.cells2
  have s2 := x3.frozen2
  simp only [World.size_alloc] at s1 s2
  obtain ⟨c0, c1⟩ := s1
  obtain ⟨f0, f1⟩ := s2
  have X : Hid (Ext w w2) := (((Ext.refl w).alloc _).alloc _).trans x3
  have HI : Hid (IsI w2 (zG #[.bool B, .slice au lu cu]) (-z)) := HF.out w2 X.out
  clear x3 HM HF
  go_wp2_with fail
  exact bodyPost_ret (v := zG #[.bool B, .slice au lu cu]) (by simp [results, Tryz.results94, go_sem, c0, c1]) rfl ⟨⟨_, rfl, HI.out.set2 c0 c1⟩, (X.out.setCell (by simp) _).setCell (by simp) _⟩
def sgn (z : Int) : Int := if z < 0 then -1 else if z = 0 then 0 else 1
set_option maxHeartbeats 400000 in
theorem sign_isI (z : Int) (r : Value) (w : World) (h : IsI w r z) (hs : SmallI z) :
    Calls zP 53 #[r] w fun e w' => e = zR (J zq (sgn z)) ∧ Ext w w' := by
  obtain ⟨u, rfl, hu⟩ := h
  obtain ⟨a, l, cap, rfl, hz, hl⟩ := hu.zero_iff
  have hl' : l ≤ 1000 := by have := hs.1; omega
  by_cases h1 : z < 0
  · have e1 : Hid (-1 = sgn z) := by show _ = _; unfold sgn; rw [if_pos h1]
    have e2 : decide (z < 0) = true := decide_eq_true h1
    rw [e2]
    clear hl hz hu hs h1 e2
    go_enter Tryz.func53, Tryz.ntmps53
    go_wp2_with fail
    go_ret
    exact ⟨ret_int e1.out, (Ext.refl _).alloc _⟩
  · have e2 : decide (z < 0) = false := decide_eq_false h1
    rw [e2]
    by_cases h0 : l = 0
    · have e1 : Hid (0 = sgn z) := by show _ = _; unfold sgn; rw [if_neg h1, if_pos (by have := hz.1 h0; omega)]
      subst h0
      clear hz hl hu hs h1 e2
      go_enter Tryz.func53, Tryz.ntmps53
      go_wp2_with fail
      go_ret
      exact ⟨ret_int e1.out, (Ext.refl _).alloc _⟩
    · have e1 : Hid (1 = sgn z) := by show _ = _; unfold sgn; rw [if_neg h1, if_neg (fun h => h0 (hz.2 (by omega)))]
      have hp : (0 : Int) < (l : Int) := by omega
      clear hz hl hu hs h1 e2
      go_enter Tryz.func53, Tryz.ntmps53
      go_wp2_with fail
      go_ret
      exact ⟨ret_int e1.out, (Ext.refl _).alloc _⟩
theorem cell_drew {w w' : World} (h : Ext w.drew w') : Ext w w' := (Ext.refl w).drew.trans h
structure Laid (w W : World) (b1 b2 : Bool) (u1 u2 : Value) : Prop where
  a0 : W.cell? ⟨w.heap.size, 0, none⟩ = some (.bool b1)
  a1 : W.cell? ⟨w.heap.size, 1, none⟩ = some u1
  b0 : W.cell? ⟨w.heap.size + 1, 0, none⟩ = some (.bool b2)
  b1 : W.cell? ⟨w.heap.size + 1, 1, none⟩ = some u2
  c0 : W.cell? ⟨w.heap.size + 1 + 1, 0, none⟩ = some (.bool false)
  c1 : W.cell? ⟨w.heap.size + 1 + 1, 1, none⟩ = some (.slice none 0 0)
  f0 : W.frozen? ⟨w.heap.size + 1 + 1, 0, none⟩ = false
  f1 : W.frozen? ⟨w.heap.size + 1 + 1, 1, none⟩ = false
theorem Laid.ext {w W W' : World} {b1 b2 : Bool} {u1 u2 : Value} (h : Laid w W b1 b2 u1 u2) (hx : Ext W W') : Laid w W' b1 b2 u1 u2 :=
  ⟨hx.kept h.a0, hx.kept h.a1, hx.kept h.b0, hx.kept h.b1, hx.kept h.c0, hx.kept h.c1, by rw [(hx.lay).2.1 _ _ (cell_lt h.c0)]; exact h.f0, by rw [(hx.lay).2.1 _ _ (cell_lt h.c1)]; exact h.f1⟩
theorem laid_start (w : World) (b1 b2 : Bool) (u1 u2 : Value) : Laid w (((w.alloc (.cells #[.bool b1, u1] 50)).alloc (.cells #[.bool b2, u2] 50)).alloc (.cells #[.bool false, .slice none 0 0] 50)) b1 b2 u1 u2 := by
  constructor <;> simp [go_sem]
theorem far2 (w : World) (x y : Value) (b o : Nat) {g : Nat} (h : b ≠ g) : ((w.setCell ⟨g, 0, none⟩ x).setCell ⟨g, 1, none⟩ y).cell? ⟨b, o, none⟩ = w.cell? ⟨b, o, none⟩ := by
  rw [World.cell?_setCell_far _ _ _ _ (by simpa using h.symm), World.cell?_setCell_far _ _ _ _ (by simpa using h.symm)]
theorem signed_eq (neg : Bool) (n : Nat) (z : Int) (h : z.natAbs = n) (hn : n ≠ 0 → neg = decide (z < 0)) : (if neg = true then -(n : Int) else (n : Int)) = z := by
  by_cases h0 : n = 0
  · subst h0
    have : z = 0 := by omega
    subst this
    cases neg <;> rfl
  · rw [hn h0]
    by_cases hz : z < 0
    · simp [hz]; omega
    · simp [hz]; omega
theorem isI_of {w : World} {neg : Bool} {u : Value} {n : Nat} {z : Int} (hu : IsN w u n) (h : z.natAbs = n) (hn : n ≠ 0 → neg = decide (z < 0)) : IsI w (zG #[.bool (neg && decide (0 < n)), u]) z := by
  have k := isI_made w neg u n hu
  rw [signed_eq neg n z h hn] at k
  exact k
set_option maxHeartbeats 4000000 in
theorem times_isI (x y : Int) (r1 r2 : Value) (w : World) (h1 : IsI w r1 x) (h2 : IsI w r2 y) (s1 : SmallI x) (s2 : SmallI y) (s3 : SmallI (x * y)) :
    Calls zP 55 #[r1, r2] w fun e w' => (∃ r', e = zR r' ∧ IsI w' r' (x * y)) ∧ Ext w w' := by
  obtain ⟨u1, rfl, k1⟩ := h1
  obtain ⟨u2, rfl, k2⟩ := h2
  have hab : (x * y).natAbs = x.natAbs * y.natAbs := Int.natAbs_mul x y
  have hsg : x.natAbs * y.natAbs ≠ 0 → (!(decide (x < 0) == decide (y < 0))) = decide (x * y < 0) := by
    intro h0
    have hx0 : x ≠ 0 := by intro h; subst h; simp at h0
    have hy0 : y ≠ 0 := by intro h; subst h; simp at h0
    by_cases hx : x < 0
    · by_cases hy : y < 0
      · have := Int.mul_pos_of_neg_of_neg hx hy
        have e : ¬ x * y < 0 := by omega
        simp [hx, hy, e]
      · have := Int.mul_neg_of_neg_of_pos hx (show 0 < y by omega)
        simp [hx, hy, this]
    · by_cases hy : y < 0
      · have := Int.mul_neg_of_pos_of_neg (show 0 < x by omega) hy
        simp [hx, hy, this]
      · have := Int.mul_pos (show 0 < x by omega) (show 0 < y by omega)
        have e : ¬ x * y < 0 := by omega
        simp [hx, hy, e]
  have HT : Hid (∀ w', Ext w w' → Calls zP 95 #[u1, u2] w' fun e w'' => (∃ v', e = zR v' ∧ IsN w'' v' (x.natAbs * y.natAbs)) ∧ Ext w' w'') := fun w' hx => ntimes_any _ _ u1 u2 w' (k1.ext hx) (k2.ext hx) s1 s2
  have HM : Hid (∀ u w', IsN w' u (x.natAbs * y.natAbs) → Calls zP 56 #[.bool (!(decide (x < 0) == decide (y < 0))), u] w' fun e w'' => e = zR (zG #[.bool ((!(decide (x < 0) == decide (y < 0))) && decide (0 < x.natAbs * y.natAbs)), u]) ∧ Ext w' w'') := fun u w' hu => made_any _ u _ w' hu (by have : Small (x * y).natAbs := s3; rwa [hab] at this)
  have HF : Hid (∀ u w', IsN w' u (x.natAbs * y.natAbs) → IsI w' (zG #[.bool ((!(decide (x < 0) == decide (y < 0))) && decide (0 < x.natAbs * y.natAbs)), u]) (x * y)) := fun u w' hu => isI_of hu hab hsg
  obtain ⟨a1, l1, c1, rfl⟩ := k1.isSlice
  obtain ⟨a2, l2, c2, rfl⟩ := k2.isSlice
  clear k1 k2 s1 s2 s3 hab hsg
  generalize ((!(decide (x < 0) == decide (y < 0))) && decide (0 < x.natAbs * y.natAbs)) = B at *
  generalize decide (x < 0) = d1 at *
  generalize decide (y < 0) = d2 at *
  have LS := laid_start w d1 d2 (.slice a1 l1 c1) (.slice a2 l2 c2)
  have XS : Hid (Ext w (((w.alloc (.cells #[.bool d1, .slice a1 l1 c1] 50)).alloc (.cells #[.bool d2, .slice a2 l2 c2] 50)).alloc (.cells #[.bool false, .slice none 0 0] 50))) := (((Ext.refl w).alloc _).alloc _).alloc _
  have LS' : Hid _ := LS
  clear LS
  go_enter Tryz.func55, Tryz.ntmps55
  go_wp2_with fail
  generalize ((w.alloc (.cells #[.bool d1, .slice a1 l1 c1] 50)).alloc (.cells #[.bool d2, .slice a2 l2 c2] 50)).alloc (.cells #[.bool false, .slice none 0 0] 50) = W at *
  obtain ⟨p0, p1, p2, p3, p4, p5, p6, p7⟩ := LS'.out
  go_region_held (fun w' => w'.cell? ⟨w.heap.size, 0, none⟩ = some (.bool d1) ∧ w'.cell? ⟨w.heap.size, 1, none⟩ = some (.slice a1 l1 c1) ∧ w'.cell? ⟨w.heap.size + 1, 0, none⟩ = some (.bool d2) ∧ w'.cell? ⟨w.heap.size + 1, 1, none⟩ = some (.slice a2 l2 c2)) (first | (go_keep; done) | (simp only [far2 _ _ _ _ _ (show w.heap.size ≠ w.heap.size + 1 + 1 by omega), far2 _ _ _ _ _ (show w.heap.size + 1 ≠ w.heap.size + 1 + 1 by omega)]; exact ⟨by assumption, by assumption, by assumption, by assumption⟩)) (first | (go_at_call 95; refine (HT.out _ (XS.out.drew)).mono ?_; rintro e w1 ⟨⟨u, rfl, hu⟩, x1⟩; obtain ⟨q0, q1, q2, q3, q4, q5, q6, q7⟩ := LS'.out.ext (cell_drew x1)) | (go_at_call 56; refine (HM.out _ _ hu).mono ?_; rintro e w2 ⟨rfl, x2⟩; obtain ⟨t0, t1, t2, t3, t4, t5, t6, t7⟩ := LS'.out.ext ((cell_drew x1).trans x2); obtain ⟨au, lu, cu, hau⟩ := hu.isSlice; subst hau))
  have X : Hid (Ext w w2) := (XS.out.trans (cell_drew x1)).trans x2
  have HI : Hid (IsI w2 (zG #[.bool B, .slice au lu cu]) (x * y)) := HF.out _ w2 (hu.ext x2)
  go_wp2_with fail
  exact bodyPost_ret (v := zG #[.bool B, .slice au lu cu]) (by simp [results, Tryz.results55, go_sem, t4, t5]) rfl ⟨⟨_, rfl, HI.out.set2 t4 t5⟩, (X.out.setCell (show w.heap.size ≤ w.heap.size + 1 + 1 by omega) _).setCell (show w.heap.size ≤ w.heap.size + 1 + 1 by omega) _⟩
set_option maxHeartbeats 4000000 in
theorem plus_isI (x y : Int) (r1 r2 : Value) (w : World) (h1 : IsI w r1 x) (h2 : IsI w r2 y) (s1 : SmallI x) (s2 : SmallI y) (s3 : SmallI (x + y)) :
    Calls zP 51 #[r1, r2] w fun e w' => (∃ r', e = zR r' ∧ IsI w' r' (x + y)) ∧ Ext w w' := by
  obtain ⟨u1, rfl, k1⟩ := h1
  obtain ⟨u2, rfl, k2⟩ := h2
  by_cases hs : decide (x < 0) = decide (y < 0)
  · have hab : (x + y).natAbs = x.natAbs + y.natAbs := by rw [decide_eq_decide] at hs; omega
    have hsg : x.natAbs + y.natAbs ≠ 0 → decide (x < 0) = decide (x + y < 0) := by intro h0; rw [decide_eq_decide] at *; omega
    have HT : Hid (∀ w', Ext w w' → Calls zP 91 #[u1, u2] w' fun e w'' => (∃ v', e = zR v' ∧ IsN w'' v' (x.natAbs + y.natAbs)) ∧ Ext w' w'') := fun w' hx => nplus_any _ _ u1 u2 w' (k1.ext hx) (k2.ext hx) s1 s2
    have HM : Hid (∀ u w', IsN w' u (x.natAbs + y.natAbs) → Calls zP 56 #[.bool (decide (x < 0)), u] w' fun e w'' => e = zR (zG #[.bool (decide (x < 0) && decide (0 < x.natAbs + y.natAbs)), u]) ∧ Ext w' w'') := fun u w' hu => made_any _ u _ w' hu (by have : Small (x + y).natAbs := s3; rwa [hab] at this)
    have HF : Hid (∀ u w', IsN w' u (x.natAbs + y.natAbs) → IsI w' (zG #[.bool (decide (x < 0) && decide (0 < x.natAbs + y.natAbs)), u]) (x + y)) := fun u w' hu => isI_of hu hab hsg
    obtain ⟨a1, l1, c1, rfl⟩ := k1.isSlice
    obtain ⟨a2, l2, c2, rfl⟩ := k2.isSlice
    rw [← hs]
    clear k1 k2 s1 s2 s3 hab hsg hs
    generalize (decide (x < 0) && decide (0 < x.natAbs + y.natAbs)) = B at *
    obtain ⟨d1, hd1⟩ : ∃ d, decide (x < 0) = d := ⟨_, rfl⟩
    rw [hd1] at HM ⊢
    clear hd1
    have hdd : (d1 == d1) = true := by simp
    have LS : Hid _ := laid_start w d1 d1 (.slice a1 l1 c1) (.slice a2 l2 c2)
    have XS : Hid (Ext w (((w.alloc (.cells #[.bool d1, .slice a1 l1 c1] 50)).alloc (.cells #[.bool d1, .slice a2 l2 c2] 50)).alloc (.cells #[.bool false, .slice none 0 0] 50))) := (((Ext.refl w).alloc _).alloc _).alloc _
    go_enter Tryz.func51, Tryz.ntmps51
    go_wp2_with fail
    generalize ((w.alloc (.cells #[.bool d1, .slice a1 l1 c1] 50)).alloc (.cells #[.bool d1, .slice a2 l2 c2] 50)).alloc (.cells #[.bool false, .slice none 0 0] 50) = W at *
    have LW := LS
    obtain ⟨p0, p1, p2, p3, p4, p5, p6, p7⟩ := LS.out
    go_region_held (fun w' => w'.cell? ⟨w.heap.size, 0, none⟩ = some (.bool d1) ∧ w'.cell? ⟨w.heap.size, 1, none⟩ = some (.slice a1 l1 c1) ∧ w'.cell? ⟨w.heap.size + 1, 0, none⟩ = some (.bool d1) ∧ w'.cell? ⟨w.heap.size + 1, 1, none⟩ = some (.slice a2 l2 c2)) (first | (go_keep; done) | (simp only [far2 _ _ _ _ _ (show w.heap.size ≠ w.heap.size + 1 + 1 by omega), far2 _ _ _ _ _ (show w.heap.size + 1 ≠ w.heap.size + 1 + 1 by omega)]; exact ⟨by assumption, by assumption, by assumption, by assumption⟩)) (first | (go_at_call 91; refine (HT.out _ (XS.out.drew)).mono ?_; rintro e w1 ⟨⟨u, rfl, hu⟩, x1⟩; obtain ⟨q0, q1, q2, q3, q4, q5, q6, q7⟩ := LW.out.ext (cell_drew x1)) | (go_at_call 56; refine (HM.out _ _ hu).mono ?_; rintro e w2 ⟨rfl, x2⟩; obtain ⟨t0, t1, t2, t3, t4, t5, t6, t7⟩ := LW.out.ext ((cell_drew x1).trans x2); obtain ⟨au, lu, cu, hau⟩ := hu.isSlice; subst hau))
    have X : Hid (Ext w w2) := (XS.out.trans (cell_drew x1)).trans x2
    have HI : Hid (IsI w2 (zG #[.bool B, .slice au lu cu]) (x + y)) := HF.out _ w2 (hu.ext x2)
    go_wp2_with fail
    exact bodyPost_ret (v := zG #[.bool B, .slice au lu cu]) (by simp [results, Tryz.results51, go_sem, t4, t5]) rfl ⟨⟨_, rfl, HI.out.set2 t4 t5⟩, (X.out.setCell (show w.heap.size ≤ w.heap.size + 1 + 1 by omega) _).setCell (show w.heap.size ≤ w.heap.size + 1 + 1 by omega) _⟩
  · have hne : (decide (x < 0) == decide (y < 0)) = false := by simpa using hs
    have HC : Hid (∀ w', Ext w w' → Calls zP 92 #[u1, u2] w' fun e w'' => e = zR (J zq (cmpN x.natAbs y.natAbs)) ∧ Ext w' w'') := fun w' hx => ncmp_any _ _ u1 u2 w' (k1.ext hx) (k2.ext hx) s1 s2
    obtain ⟨a1, l1, c1, h1⟩ := k1.isSlice
    obtain ⟨a2, l2, c2, h2⟩ := k2.isSlice
    subst h1 h2
    by_cases hge : y.natAbs ≤ x.natAbs
    · have hcmp : 0 ≤ cmpN x.natAbs y.natAbs := by unfold cmpN; rw [if_neg (by omega)]; split <;> omega
      have hab : (x + y).natAbs = x.natAbs - y.natAbs := by rw [decide_eq_decide] at hs; omega
      have hsg : x.natAbs - y.natAbs ≠ 0 → decide (x < 0) = decide (x + y < 0) := by intro h0; rw [decide_eq_decide] at *; omega
      have HT : Hid (∀ w', Ext w w' → Calls zP 93 #[.slice a1 l1 c1, .slice a2 l2 c2] w' fun e w'' => (∃ v', e = zR v' ∧ IsN w'' v' (x.natAbs - y.natAbs)) ∧ Ext w' w'') := fun w' hx => nless_any _ _ _ _ w' (k1.ext hx) (k2.ext hx) s1 s2 hge
      have HM : Hid (∀ u w', IsN w' u (x.natAbs - y.natAbs) → Calls zP 56 #[.bool (decide (x < 0)), u] w' fun e w'' => e = zR (zG #[.bool (decide (x < 0) && decide (0 < x.natAbs - y.natAbs)), u]) ∧ Ext w' w'') := fun u w' hu => made_any _ u _ w' hu (by have : Small (x + y).natAbs := s3; rwa [hab] at this)
      have HF : Hid (∀ u w', IsN w' u (x.natAbs - y.natAbs) → IsI w' (zG #[.bool (decide (x < 0) && decide (0 < x.natAbs - y.natAbs)), u]) (x + y)) := fun u w' hu => isI_of hu hab hsg
      clear k1 k2 s1 s2 s3 hab hsg hs
      generalize (decide (x < 0) && decide (0 < x.natAbs - y.natAbs)) = B at *
      generalize decide (x < 0) = d1 at *
      generalize decide (y < 0) = d2 at *
      generalize cmpN x.natAbs y.natAbs = C at *
      have LS : Hid _ := laid_start w d1 d2 (.slice a1 l1 c1) (.slice a2 l2 c2)
      have XS : Hid (Ext w (((w.alloc (.cells #[.bool d1, .slice a1 l1 c1] 50)).alloc (.cells #[.bool d2, .slice a2 l2 c2] 50)).alloc (.cells #[.bool false, .slice none 0 0] 50))) := (((Ext.refl w).alloc _).alloc _).alloc _
      go_enter Tryz.func51, Tryz.ntmps51
      go_wp2_with fail
      refine (HC.out _ XS.out).mono ?_
      rintro e wc ⟨rfl, xc⟩
      have LW : Hid _ := LS.out.ext xc
      have XC : Hid (Ext w wc) := XS.out.trans xc
      obtain ⟨p0, p1, p2, p3, p4, p5, p6, p7⟩ := LW.out
      clear xc XS LS HC
      go_wp2_with fail
      go_region_held (fun w' => w'.cell? ⟨w.heap.size, 0, none⟩ = some (.bool d1) ∧ w'.cell? ⟨w.heap.size, 1, none⟩ = some (.slice a1 l1 c1) ∧ w'.cell? ⟨w.heap.size + 1, 0, none⟩ = some (.bool d2) ∧ w'.cell? ⟨w.heap.size + 1, 1, none⟩ = some (.slice a2 l2 c2)) (first | (go_keep; done) | (simp only [far2 _ _ _ _ _ (show w.heap.size ≠ w.heap.size + 1 + 1 by omega), far2 _ _ _ _ _ (show w.heap.size + 1 ≠ w.heap.size + 1 + 1 by omega)]; exact ⟨by assumption, by assumption, by assumption, by assumption⟩)) (first | (go_at_call 93; refine (HT.out _ (XC.out.drew)).mono ?_; rintro e w1 ⟨⟨u, rfl, hu⟩, x1⟩; obtain ⟨q0, q1, q2, q3, q4, q5, q6, q7⟩ := LW.out.ext (cell_drew x1)) | (go_at_call 56; refine (HM.out _ _ hu).mono ?_; rintro e w2 ⟨rfl, x2⟩; obtain ⟨t0, t1, t2, t3, t4, t5, t6, t7⟩ := LW.out.ext ((cell_drew x1).trans x2); obtain ⟨au, lu, cu, hau⟩ := hu.isSlice; subst hau))
      have X : Hid (Ext w w2) := (XC.out.trans (cell_drew x1)).trans x2
      have HI : Hid (IsI w2 (zG #[.bool B, .slice au lu cu]) (x + y)) := HF.out _ w2 (hu.ext x2)
      go_wp2_with fail
      exact bodyPost_ret (v := zG #[.bool B, .slice au lu cu]) (by simp [results, Tryz.results51, go_sem, t4, t5]) rfl ⟨⟨_, rfl, HI.out.set2 t4 t5⟩, (X.out.setCell (show w.heap.size ≤ w.heap.size + 1 + 1 by omega) _).setCell (show w.heap.size ≤ w.heap.size + 1 + 1 by omega) _⟩
    · have hcmp : ¬ 0 ≤ cmpN x.natAbs y.natAbs := by unfold cmpN; rw [if_pos (by omega)]; omega
      have hab : (x + y).natAbs = y.natAbs - x.natAbs := by rw [decide_eq_decide] at hs; omega
      have hsg : y.natAbs - x.natAbs ≠ 0 → decide (y < 0) = decide (x + y < 0) := by intro h0; rw [decide_eq_decide] at *; omega
      have HT : Hid (∀ w', Ext w w' → Calls zP 93 #[.slice a2 l2 c2, .slice a1 l1 c1] w' fun e w'' => (∃ v', e = zR v' ∧ IsN w'' v' (y.natAbs - x.natAbs)) ∧ Ext w' w'') := fun w' hx => nless_any _ _ _ _ w' (k2.ext hx) (k1.ext hx) s2 s1 (by omega)
      have HM : Hid (∀ u w', IsN w' u (y.natAbs - x.natAbs) → Calls zP 56 #[.bool (decide (y < 0)), u] w' fun e w'' => e = zR (zG #[.bool (decide (y < 0) && decide (0 < y.natAbs - x.natAbs)), u]) ∧ Ext w' w'') := fun u w' hu => made_any _ u _ w' hu (by have : Small (x + y).natAbs := s3; rwa [hab] at this)
      have HF : Hid (∀ u w', IsN w' u (y.natAbs - x.natAbs) → IsI w' (zG #[.bool (decide (y < 0) && decide (0 < y.natAbs - x.natAbs)), u]) (x + y)) := fun u w' hu => isI_of hu hab hsg
      clear k1 k2 s1 s2 s3 hab hsg hs
      generalize (decide (y < 0) && decide (0 < y.natAbs - x.natAbs)) = B at *
      generalize decide (x < 0) = d1 at *
      generalize decide (y < 0) = d2 at *
      generalize cmpN x.natAbs y.natAbs = C at *
      have LS : Hid _ := laid_start w d1 d2 (.slice a1 l1 c1) (.slice a2 l2 c2)
      have XS : Hid (Ext w (((w.alloc (.cells #[.bool d1, .slice a1 l1 c1] 50)).alloc (.cells #[.bool d2, .slice a2 l2 c2] 50)).alloc (.cells #[.bool false, .slice none 0 0] 50))) := (((Ext.refl w).alloc _).alloc _).alloc _
      go_enter Tryz.func51, Tryz.ntmps51
      go_wp2_with fail
      refine (HC.out _ XS.out).mono ?_
      rintro e wc ⟨rfl, xc⟩
      have LW : Hid _ := LS.out.ext xc
      have XC : Hid (Ext w wc) := XS.out.trans xc
      obtain ⟨p0, p1, p2, p3, p4, p5, p6, p7⟩ := LW.out
      clear xc XS LS HC
      go_wp2_with fail
      go_region_held (fun w' => w'.cell? ⟨w.heap.size, 0, none⟩ = some (.bool d1) ∧ w'.cell? ⟨w.heap.size, 1, none⟩ = some (.slice a1 l1 c1) ∧ w'.cell? ⟨w.heap.size + 1, 0, none⟩ = some (.bool d2) ∧ w'.cell? ⟨w.heap.size + 1, 1, none⟩ = some (.slice a2 l2 c2)) (first | (go_keep; done) | (simp only [far2 _ _ _ _ _ (show w.heap.size ≠ w.heap.size + 1 + 1 by omega), far2 _ _ _ _ _ (show w.heap.size + 1 ≠ w.heap.size + 1 + 1 by omega)]; exact ⟨by assumption, by assumption, by assumption, by assumption⟩)) (first | (go_at_call 93; refine (HT.out _ (XC.out.drew)).mono ?_; rintro e w1 ⟨⟨u, rfl, hu⟩, x1⟩; obtain ⟨q0, q1, q2, q3, q4, q5, q6, q7⟩ := LW.out.ext (cell_drew x1)) | (go_at_call 56; refine (HM.out _ _ hu).mono ?_; rintro e w2 ⟨rfl, x2⟩; obtain ⟨t0, t1, t2, t3, t4, t5, t6, t7⟩ := LW.out.ext ((cell_drew x1).trans x2); obtain ⟨au, lu, cu, hau⟩ := hu.isSlice; subst hau))
      have X : Hid (Ext w w2) := (XC.out.trans (cell_drew x1)).trans x2
      have HI : Hid (IsI w2 (zG #[.bool B, .slice au lu cu]) (x + y)) := HF.out _ w2 (hu.ext x2)
      go_wp2_with fail
      exact bodyPost_ret (v := zG #[.bool B, .slice au lu cu]) (by simp [results, Tryz.results51, go_sem, t4, t5]) rfl ⟨⟨_, rfl, HI.out.set2 t4 t5⟩, (X.out.setCell (show w.heap.size ≤ w.heap.size + 1 + 1 by omega) _).setCell (show w.heap.size ≤ w.heap.size + 1 + 1 by omega) _⟩
set_option maxHeartbeats 4000000 in
theorem less_isI (x y : Int) (r1 r2 : Value) (w : World) (h1 : IsI w r1 x) (h2 : IsI w r2 y) (s1 : SmallI x) (s2 : SmallI y) (s3 : SmallI (x - y)) :
    Calls zP 54 #[r1, r2] w fun e w' => (∃ r', e = zR r' ∧ IsI w' r' (x - y)) ∧ Ext w w' := by
  have s2' : SmallI (-y) := by unfold SmallI at *; rw [Int.natAbs_neg]; exact s2
  have HG : Hid (∀ w', Ext w w' → Calls zP 94 #[r2] w' fun e w'' => (∃ r', e = zR r' ∧ IsI w'' r' (-y)) ∧ Ext w' w'') := fun w' hx => neg_isI y r2 w' (h2.ext hx) s2
  have HP : Hid (∀ r w', Ext w w' → IsI w' r (-y) → Calls zP 51 #[r1, r] w' fun e w'' => (∃ r', e = zR r' ∧ IsI w'' r' (x - y)) ∧ Ext w' w'') := fun r w' hx hr => by
    have h := plus_isI x (-y) r1 r w' (h1.ext hx) hr s1 s2' (by rw [← Int.sub_eq_add_neg]; exact s3)
    rw [← Int.sub_eq_add_neg] at h
    exact h
  obtain ⟨u1, rfl, k1⟩ := h1
  obtain ⟨u2, rfl, k2⟩ := h2
  obtain ⟨a1, l1, c1, e1⟩ := k1.isSlice
  obtain ⟨a2, l2, c2, e2⟩ := k2.isSlice
  subst e1 e2
  clear k1 k2 s1 s2 s3 s2'
  generalize decide (x < 0) = d1 at *
  generalize decide (y < 0) = d2 at *
  have LS : Hid _ := laid_start w d1 d2 (.slice a1 l1 c1) (.slice a2 l2 c2)
  have XS : Hid (Ext w (((w.alloc (.cells #[.bool d1, .slice a1 l1 c1] 50)).alloc (.cells #[.bool d2, .slice a2 l2 c2] 50)).alloc (.cells #[.bool false, .slice none 0 0] 50))) := (((Ext.refl w).alloc _).alloc _).alloc _
  go_enter Tryz.func54, Tryz.ntmps54
  go_wp2_with fail
  generalize ((w.alloc (.cells #[.bool d1, .slice a1 l1 c1] 50)).alloc (.cells #[.bool d2, .slice a2 l2 c2] 50)).alloc (.cells #[.bool false, .slice none 0 0] 50) = W at *
  obtain ⟨p0, p1, p2, p3, p4, p5, p6, p7⟩ := LS.out
  go_region_held (fun w' => w'.cell? ⟨w.heap.size, 0, none⟩ = some (.bool d1) ∧ w'.cell? ⟨w.heap.size, 1, none⟩ = some (.slice a1 l1 c1) ∧ w'.cell? ⟨w.heap.size + 1, 0, none⟩ = some (.bool d2) ∧ w'.cell? ⟨w.heap.size + 1, 1, none⟩ = some (.slice a2 l2 c2)) (first | (go_keep; done) | (simp only [far2 _ _ _ _ _ (show w.heap.size ≠ w.heap.size + 1 + 1 by omega), far2 _ _ _ _ _ (show w.heap.size + 1 ≠ w.heap.size + 1 + 1 by omega)]; exact ⟨by assumption, by assumption, by assumption, by assumption⟩)) (first | (go_at_call 94; refine (HG.out _ (XS.out.drew)).mono ?_; rintro e w1 ⟨⟨r, rfl, hr⟩, x1⟩; obtain ⟨q0, q1, q2, q3, q4, q5, q6, q7⟩ := LS.out.ext (cell_drew x1)) | (go_at_call 51; refine (HP.out _ _ (XS.out.trans (cell_drew x1)) hr).mono ?_; rintro e w2 ⟨⟨r', rfl, hr'⟩, x2⟩; obtain ⟨t0, t1, t2, t3, t4, t5, t6, t7⟩ := LS.out.ext ((cell_drew x1).trans x2); obtain ⟨u, hru, hu⟩ := hr'; obtain ⟨au, lu, cu, hau⟩ := hu.isSlice; subst hau; subst hru))
  have X : Hid (Ext w w2) := (XS.out.trans (cell_drew x1)).trans x2
  have HI : Hid (IsI w2 (zG #[.bool (decide (x - y < 0)), .slice au lu cu]) (x - y)) := ⟨_, rfl, hu⟩
  go_wp2_with fail
  exact bodyPost_ret (v := zG #[.bool (decide (x - y < 0)), .slice au lu cu]) (by simp [results, Tryz.results54, go_sem, t4, t5]) rfl ⟨⟨_, rfl, HI.out.set2 t4 t5⟩, (X.out.setCell (show w.heap.size ≤ w.heap.size + 1 + 1 by omega) _).setCell (show w.heap.size ≤ w.heap.size + 1 + 1 by omega) _⟩
set_option maxHeartbeats 1000000 in
theorem cmp_isI (x y : Int) (r1 r2 : Value) (w : World) (h1 : IsI w r1 x) (h2 : IsI w r2 y) (s1 : SmallI x) (s2 : SmallI y) (s3 : SmallI (x - y)) :
    Calls zP 20 #[r1, r2] w fun e w' => e = zR (J zq (sgn (x - y))) ∧ Ext w w' := by
  have HL : Hid (∀ w', Ext w w' → Calls zP 54 #[r1, r2] w' fun e w'' => (∃ r', e = zR r' ∧ IsI w'' r' (x - y)) ∧ Ext w' w'') := fun w' hx => less_isI x y r1 r2 w' (h1.ext hx) (h2.ext hx) s1 s2 s3
  have HS : Hid (∀ r w', IsI w' r (x - y) → Calls zP 53 #[r] w' fun e w'' => e = zR (J zq (sgn (x - y))) ∧ Ext w' w'') := fun r w' hr => sign_isI (x - y) r w' hr s3
  obtain ⟨u1, rfl, k1⟩ := h1
  obtain ⟨u2, rfl, k2⟩ := h2
  obtain ⟨a1, l1, c1, e1⟩ := k1.isSlice
  obtain ⟨a2, l2, c2, e2⟩ := k2.isSlice
  subst e1 e2
  clear k1 k2 s1 s2 s3
  generalize decide (x < 0) = d1 at *
  generalize decide (y < 0) = d2 at *
  have XS : Hid (Ext w ((w.alloc (.cells #[.bool d1, .slice a1 l1 c1] 50)).alloc (.cells #[.bool d2, .slice a2 l2 c2] 50))) := ((Ext.refl w).alloc _).alloc _
  go_enter Tryz.func20, Tryz.ntmps20
  go_wp2_with fail
  refine (HL.out _ XS.out).mono ?_
  rintro e w1 ⟨⟨r, rfl, hr⟩, x1⟩
  go_wp2_with fail
  refine (HS.out _ _ hr).mono ?_
  rintro e w2 ⟨rfl, x2⟩
  go_wp2_with fail
  go_ret
  exact ⟨rfl, (XS.out.trans x1).trans x2⟩
structure Laid1 (w W : World) (b1 : Bool) (u1 : Value) : Prop where
  a0 : W.cell? ⟨w.heap.size, 0, none⟩ = some (.bool b1)
  a1 : W.cell? ⟨w.heap.size, 1, none⟩ = some u1
  c0 : W.cell? ⟨w.heap.size + 1, 0, none⟩ = some (.bool false)
  c1 : W.cell? ⟨w.heap.size + 1, 1, none⟩ = some (.slice none 0 0)
  f0 : W.frozen? ⟨w.heap.size + 1, 0, none⟩ = false
  f1 : W.frozen? ⟨w.heap.size + 1, 1, none⟩ = false
theorem Laid1.ext {w W W' : World} {b1 : Bool} {u1 : Value} (h : Laid1 w W b1 u1) (hx : Ext W W') : Laid1 w W' b1 u1 :=
  ⟨hx.kept h.a0, hx.kept h.a1, hx.kept h.c0, hx.kept h.c1, by rw [(hx.lay).2.1 _ _ (cell_lt h.c0)]; exact h.f0, by rw [(hx.lay).2.1 _ _ (cell_lt h.c1)]; exact h.f1⟩
theorem laid1_start (w : World) (b1 : Bool) (u1 : Value) : Laid1 w ((w.alloc (.cells #[.bool b1, u1] 50)).alloc (.cells #[.bool false, .slice none 0 0] 50)) b1 u1 := by
  constructor <;> simp [go_sem]
set_option maxHeartbeats 4000000 in
theorem left_isI (x : Int) (n : Nat) (r1 : Value) (w : World) (h1 : IsI w r1 x) (s1 : SmallI x) (hn : n ≤ 10000) (s3 : SmallI (x * 2 ^ n)) :
    Calls zP 59 #[r1, J zq (n : Int)] w fun e w' => (∃ r', e = zR r' ∧ IsI w' r' (x * 2 ^ n)) ∧ Ext w w' := by
  obtain ⟨u1, rfl, k1⟩ := h1
  have hab : (x * 2 ^ n).natAbs = x.natAbs * 2 ^ n := by rw [Int.natAbs_mul, Int.natAbs_pow]; rfl
  have hp : 0 < (2 : Int) ^ n := Int.pow_pos (by omega)
  have hsg : x.natAbs * 2 ^ n ≠ 0 → decide (x < 0) = decide (x * 2 ^ n < 0) := by
    intro h0
    rw [decide_eq_decide]
    constructor
    · intro h; exact Int.mul_neg_of_neg_of_pos h hp
    · intro h
      apply Int.not_le.1
      intro hle
      have := Int.mul_nonneg hle (Int.le_of_lt hp)
      omega
  have HT : Hid (∀ w', Ext w w' → Calls zP 97 #[u1, J zq (n : Int)] w' fun e w'' => (∃ v', e = zR v' ∧ IsN w'' v' (x.natAbs * 2 ^ n)) ∧ Ext w' w'') := fun w' hx => up2_any _ n u1 w' (k1.ext hx) s1 hn
  have HM : Hid (∀ u w', IsN w' u (x.natAbs * 2 ^ n) → Calls zP 56 #[.bool (decide (x < 0)), u] w' fun e w'' => e = zR (zG #[.bool (decide (x < 0) && decide (0 < x.natAbs * 2 ^ n)), u]) ∧ Ext w' w'') := fun u w' hu => made_any _ u _ w' hu (by have : Small (x * 2 ^ n).natAbs := s3; rwa [hab] at this)
  have HF : Hid (∀ u w', IsN w' u (x.natAbs * 2 ^ n) → IsI w' (zG #[.bool (decide (x < 0) && decide (0 < x.natAbs * 2 ^ n)), u]) (x * 2 ^ n)) := fun u w' hu => isI_of hu hab hsg
  obtain ⟨a1, l1, c1, rfl⟩ := k1.isSlice
  clear k1 s1 s3 hab hsg hp
  generalize (decide (x < 0) && decide (0 < x.natAbs * 2 ^ n)) = B at *
  generalize decide (x < 0) = d1 at *
  generalize x.natAbs * 2 ^ n = M at *
  generalize x * 2 ^ n = Z at *
  have XS : Hid (Ext w ((w.alloc (.cells #[.bool d1, .slice a1 l1 c1] 50)).alloc (.cells #[.bool false, .slice none 0 0] 50))) := ((Ext.refl w).alloc _).alloc _
  have LS : Hid (Laid1 w ((w.alloc (.cells #[.bool d1, .slice a1 l1 c1] 50)).alloc (.cells #[.bool false, .slice none 0 0] 50)) d1 (.slice a1 l1 c1)) := laid1_start w d1 (.slice a1 l1 c1)
  go_enter Tryz.func59, Tryz.ntmps59
  go_wp2_with fail
  generalize (w.alloc (.cells #[.bool d1, .slice a1 l1 c1] 50)).alloc (.cells #[.bool false, .slice none 0 0] 50) = W at *
  obtain ⟨p0, p1, p4, p5, p6, p7⟩ := LS.out
  go_region_held (fun w' => w'.cell? ⟨w.heap.size, 0, none⟩ = some (.bool d1) ∧ w'.cell? ⟨w.heap.size, 1, none⟩ = some (.slice a1 l1 c1)) (first | (go_keep; done) | (simp only [far2 _ _ _ _ _ (show w.heap.size ≠ w.heap.size + 1 by omega)]; exact ⟨by assumption, by assumption⟩)) (first | (go_at_call 97; refine (HT.out _ (XS.out.drew)).mono ?_; rintro e w1 ⟨⟨u, rfl, hu⟩, x1⟩; obtain ⟨q0, q1, q4, q5, q6, q7⟩ := LS.out.ext (cell_drew x1)) | (go_at_call 56; refine (HM.out _ _ hu).mono ?_; rintro e w2 ⟨rfl, x2⟩; obtain ⟨t0, t1, t4, t5, t6, t7⟩ := LS.out.ext ((cell_drew x1).trans x2); obtain ⟨au, lu, cu, hau⟩ := hu.isSlice; subst hau))
  have X : Hid (Ext w w2) := (XS.out.trans (cell_drew x1)).trans x2
  have HI : Hid (IsI w2 (zG #[.bool B, .slice au lu cu]) Z) := HF.out _ w2 (hu.ext x2)
  go_wp2_with fail
  exact bodyPost_ret (v := zG #[.bool B, .slice au lu cu]) (by simp [results, Tryz.results59, go_sem, t4, t5]) rfl ⟨⟨_, rfl, HI.out.set2 t4 t5⟩, (X.out.setCell (show w.heap.size ≤ w.heap.size + 1 by omega) _).setCell (show w.heap.size ≤ w.heap.size + 1 by omega) _⟩
theorem small_le {m n : Nat} (h : Small m) (hn : n ≤ m) : Small n := by
  have k1 := Dig.val_lt 18446744073709551616 _ (Dig.okd 18446744073709551616 m (by omega))
  have k2 := Dig.val_lt 4294967296 _ (Dig.okd 4294967296 m (by omega))
  rw [Dig.vald 18446744073709551616 m (by omega)] at k1
  rw [Dig.vald 4294967296 m (by omega)] at k2
  exact ⟨Nat.le_trans (Dig.digs_length_le _ (by omega) n _ (Nat.lt_of_le_of_lt hn k1)) h.1, Nat.le_trans (Dig.digs_length_le _ (by omega) n _ (Nat.lt_of_le_of_lt hn k2)) h.2⟩
set_option maxHeartbeats 4000000 in
theorem ndivide_short (m b : Nat) (v1 v2 : Value) (w : World) (h1 : IsN w v1 m) (h2 : IsN w v2 b) (s1 : Small m) (s2 : Small b) (hl : (Dig.digs 4294967296 b).length = 1) :
    Calls zP 128 #[v1, v2] w fun e w' => (∃ q r, e = zR (.tuple #[q, r]) ∧ IsN w' q (m / b) ∧ IsN w' r (m % b)) ∧ Ext w w' := by
  have hbb := Dig.length_bounds 4294967296 b 0 (by omega) hl
  have hb1 : 1 ≤ b := by simpa using hbb.1
  have hb2 : b < 4294967296 := by simpa using hbb.2
  have hd0 : (Dig.digs 4294967296 b).getD 0 0 = b := by rw [Dig.digs_getD _ (by omega), Nat.pow_zero, Nat.div_one, Nat.mod_eq_of_lt hb2]
  have H1 : Hid (∀ w', Ext w w' → Calls zP 122 #[v2] w' fun e w'' => (∃ v', e = zR v' ∧ Row .u32 w'' v' (Dig.digs 4294967296 b)) ∧ Ext w' w'') := fun w' hx => halves_any b v2 w' (h2.ext hx) s2.1
  have H2 : Hid (∀ w', Ext w w' → Calls zP 122 #[v1] w' fun e w'' => (∃ v', e = zR v' ∧ Row .u32 w'' v' (Dig.digs 4294967296 m)) ∧ Ext w' w'') := fun w' hx => halves_any m v1 w' (h1.ext hx) s1.1
  have H3 : Hid (∀ v w, Row .u32 w v (Dig.digs 4294967296 m) → Calls zP 162 #[v, .int .u32 (b : Int)] w fun e w' => (∃ v', e = zR (.tuple #[v', .int .u32 ((m % b : Nat) : Int)]) ∧ Row .u32 w' v' (Dig.digs 4294967296 (m / b))) ∧ Ext w w') := fun v w hr => short_any m b v w hr s1.2 hb1 hb2
  have H4 : Hid (∀ v w, Row .u32 w v (Dig.digs 4294967296 (m / b)) → Calls zP 123 #[v] w fun e w' => (∃ v', e = zR v' ∧ IsN w' v' (m / b)) ∧ Ext w w') := fun v w hr => by
    have h := whole_any _ v w hr (Dig.okd _ _ (by omega)) (by have := (small_le s1 (Nat.div_le_self m b)).2; omega)
    rw [Dig.vald _ _ (by omega)] at h
    exact h
  have hmb : m % b < 4294967296 := Nat.lt_trans (Nat.mod_lt _ hb1) hb2
  have H5 : Hid (∀ w, Calls zP 57 #[J zu ((m % b : Nat) : Int)] w fun e w' => (∃ v', e = zR v' ∧ IsN w' v' (m % b)) ∧ Ext w w') := fun w => nof_any (m % b) (by omega) w
  obtain ⟨a1, l1, c1, e1⟩ := h1.isSlice
  obtain ⟨a2, l2, c2, e2⟩ := h2.isSlice
  subst e1 e2
  clear h1 h2 s1 s2 hbb hb1
  obtain ⟨xs, hxs⟩ : ∃ xs, Dig.digs 4294967296 b = xs := ⟨_, rfl⟩
  rw [hxs] at H1 hl hd0
  clear hxs
  obtain ⟨Bb, gB⟩ : ∃ B : Int, (b : Int) = B := ⟨_, rfl⟩
  obtain ⟨Rr, gR, gR1, gR2⟩ : ∃ R : Int, ((m % b : Nat) : Int) = R ∧ 0 ≤ R ∧ R < 4294967296 := ⟨_, rfl, by omega, by omega⟩
  rw [gB, gR] at H3
  rw [gR] at H5
  have HQ : Hid (xs.getD 0 0 = b) := hd0
  have GB : Hid ((b : Int) = Bb) := gB
  have HL1 : Hid (xs.length = 1) := hl
  clear hd0 gB gR hmb hb2
  go_enter Tryz.func128, Tryz.ntmps128
  go_wp2_with fail
  refine (H1.out _ (Ext.refl _)).mono ?_
  rintro e w1 ⟨⟨y, rfl, hy⟩, x1⟩
  obtain ⟨ay, cy, rfl, gy⟩ := hy.shape
  obtain ⟨by', oy, rfl, hcell⟩ := gy (by omega)
  have hc0 := hcell 0 (by omega)
  rw [HQ.out, GB.out, Nat.add_zero] at hc0
  rw [HL1.out]
  clear hcell gy hy hl
  go_wp2_with fail
  go_region_with (first | (go_at_call 122; refine (H2.out _ (by first | exact x1 | exact x1.drew | exact x1.drew.drew | exact x1.drewN _)).mono ?_; rintro e w2 ⟨⟨x, rfl, hx⟩, x2⟩; have k0 := x2.kept hc0) | (go_at_call 162; refine (H3.out _ _ hx).mono ?_; rintro e w3 ⟨⟨q, rfl, hq⟩, x3⟩))
  all_goals
    have X3 : Hid (Ext w w3) := by first | exact (x1.trans x2).trans x3 | exact (x1.trans (cell_drew x2)).trans x3 | exact ((x1.drewN _).trans x2).trans x3 | exact (x1.drew.trans x2).trans x3
    clear x1 x2 x3 hx
    go_wp2_with fail
    refine (H4.out _ _ hq).mono ?_
    rintro e w4 ⟨⟨q', rfl, hq'⟩, x4⟩
    go_wp2_with fail
    refine (H5.out _).mono ?_
    rintro e w5 ⟨⟨r', rfl, hr'⟩, x5⟩
    go_wp2_with fail
    go_ret2
    exact ⟨⟨_, _, rfl, hq'.ext x5, hr'⟩, (X3.out.trans x4).trans x5⟩
set_option maxHeartbeats 4000000 in
theorem ndivide_less (m b : Nat) (v1 v2 : Value) (w : World) (h1 : IsN w v1 m) (h2 : IsN w v2 b) (s1 : Small m) (s2 : Small b) (hl : (Dig.digs 4294967296 b).length ≠ 1) (hlt : Dig.blen m < Dig.blen b) :
    Calls zP 128 #[v1, v2] w fun e w' => (∃ q r, e = zR (.tuple #[q, r]) ∧ IsN w' q (m / b) ∧ IsN w' r (m % b)) ∧ Ext w w' := by
  have hmb : m < b := by
    apply Nat.lt_of_not_le
    intro hle
    have := Dig.blen_le b _ (Nat.lt_of_le_of_lt hle (Dig.lt_blen m))
    omega
  have T1 : Dig.blen m ≤ 64000 := Dig.blen_bound m 1000 s1.1
  have T2 : Dig.blen b ≤ 64000 := Dig.blen_bound b 1000 s2.1
  have H1 : Hid (∀ w', Ext w w' → Calls zP 122 #[v2] w' fun e w'' => (∃ v', e = zR v' ∧ Row .u32 w'' v' (Dig.digs 4294967296 b)) ∧ Ext w' w'') := fun w' hx => halves_any b v2 w' (h2.ext hx) s2.1
  have H2 : Hid (∀ w', Ext w w' → Calls zP 163 #[v1] w' fun e w'' => e = zR (J zq (Dig.blen m : Int)) ∧ w'' = w') := fun w' hx => nlen_any m v1 w' (h1.ext hx) s1
  have H3 : Hid (∀ w', Ext w w' → Calls zP 163 #[v2] w' fun e w'' => e = zR (J zq (Dig.blen b : Int)) ∧ w'' = w') := fun w' hx => nlen_any b v2 w' (h2.ext hx) s2
  have E1 : Hid (m / b = 0) := Nat.div_eq_of_lt hmb
  have E2 : Hid (m % b = m) := Nat.mod_eq_of_lt hmb
  have HM : Hid (IsN w v1 m) := h1
  obtain ⟨a1, l1, c1, e1⟩ := h1.isSlice
  obtain ⟨a2, l2, c2, e2⟩ := h2.isSlice
  subst e1 e2
  have HS : Hid ((Dig.digs 4294967296 b).length ≤ 2000) := s2.2
  clear h1 h2 s1 s2 hmb
  generalize Dig.blen m = A at *
  generalize Dig.blen b = B at *
  generalize Dig.digs 4294967296 b = xs at *
  have hne : ((xs.length : Int) == 1) = false := by simp; omega
  have hA : (A : Int) < (B : Int) := by omega
  have hl2 : xs.length ≤ 2000 := HS.out
  clear hl
  go_enter Tryz.func128, Tryz.ntmps128
  go_wp2_with fail
  refine (H1.out _ (Ext.refl _)).mono ?_
  rintro e w1 ⟨⟨y, rfl, hy⟩, x1⟩
  obtain ⟨ay, cy, rfl, gy⟩ := hy.shape
  clear gy hy
  go_wp2_with fail
  refine (H2.out _ x1).mono ?_
  rintro e wx ⟨rfl, hwx⟩
  have hwy := hwx.symm
  clear hwx
  subst hwy
  go_wp2_with fail
  refine (H3.out _ x1).mono ?_
  rintro e wx ⟨rfl, hwx⟩
  have hwy := hwx.symm
  clear hwx
  subst hwy
  go_wp2_with fail
  go_ret2
  refine ⟨⟨_, _, rfl, .inl ⟨rfl, ?_⟩, ?_⟩, x1⟩
  · rw [E1.out]; rfl
  · rw [E2.out]; exact HM.out.ext x1
end Go.Proofs.YtoeecldhbabmbaaGreat
