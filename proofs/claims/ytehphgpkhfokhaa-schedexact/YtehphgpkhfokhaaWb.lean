/- SchedExact: lists of numbers; turn, long. -/
import Derived.Test.YtehphgpkhfokhaaWa
import Derived.Deep.CutBlock
namespace Go.Proofs.Ytehphgpkhfokhaa
open Go.RowKit Go.Conc
set_option maxRecDepth 20000 in
set_option maxHeartbeats 4000000 in
theorem copy_nums {l : List Int} (u : Value) (w : World) (hu : RdI w u l) (hS : l.length ≤ 1000) :
    Calls Try.prog 18 #[u] w fun e w' => ∃ a cap, e = .returned (.slice a l.length cap) ∧ w'.ownsRow w.heap.size Ei 1 (.slice a l.length cap) l.length (nums l) ∧ Ext w w' := by
  obtain ⟨i0, hi, hz0, hz1, hz2⟩ := info_parts Try.infoInt
  obtain ⟨a, cap, rfl, ha⟩ := hu
  have HA : Hid (∀ j, j < l.length → ∃ b off, a = some ⟨b, off, none⟩ ∧ w.cell? ⟨b, off + j, none⟩ = some (.int .i64 (gi l j))) := ha
  have HL : Hid (l.length ≤ 1000) := hS
  clear ha hS
  go_enter Try.func18, Try.ntmps18
  go_wp2_with fail
  go_loopw [3, 4] (fun s3 s4 wr => ∃ (j : Nat) (r : Option Addr) (c : Nat), j ≤ l.length ∧ s4 = .int .i64 j ∧ s3 = .slice r j c ∧ Hid (wr.ownsRow w.heap.size Ei 1 (.slice r j c) j (nums (l.take j)) ∧ Ext w wr)) (fun _ s4 _ => l.length - (intOf s4).toNat)
  case atStart => exact ⟨0, none, 0, Nat.zero_le _, rfl, rfl, World.ownsRow_nil _ _ _ _, Ext.refl _⟩
  case round =>
    obtain ⟨j, r, c, hj, rfl, rfl, hR⟩ := hrel
    by_cases hlt : j < l.length
    · have hjx : (j : Int) < (l.length : Int) := by omega
      obtain ⟨b1, o1, rfl, c0⟩ := HA.out j hlt
      have c0 := hR.out.2.keepc c0
      have hL := HL.out
      have HT : Hid (nums (l.take (j + 1)) = nums (l.take j) ++ [.int .i64 (gi l j)]) := by show _ = _; rw [take_num hlt, nums_app]; rfl
      generalize gi l j = t1 at *
      have hown := hR.out.1
      have hb : w.heap.size ≤ wr.heap.size + 1 := by have := hR.out.2.size; omega
      have h63 : j + 1 ≤ maxLen := by unfold maxLen; omega
      have hby : (j + 1) * 8 ≤ 140737488355328 := by omega
      have hj2 : (j : Int) ≤ 1000 := by omega
      clear hL
      go_wp2_with (at_builtin; refine wpList_append_lies _ rfl (.tmp 11) (.tmp 16) 40 rfl w.heap.size Ei i0 (.int .i64 0) 1 8 Try.underlying40 hi hz0 hz1 hz2 rfl (by decide) _ j (nums (l.take j)) rfl (by exact hown.alloc _) ⟨wr.heap.size, 0, none⟩ 1 1 [.int .i64 t1] rfl rfl (by exact one_new wr _ _) (by simp [Value.oneCell']) (by decide) h63 hby (by simpa using hb) (wr.heap.size + 1) (by simp) ?_; intro g' cap' w2 hown' hg' hgb hgl; have R1 : Hid (w2.ownsRow w.heap.size Ei 1 (.slice (some ⟨g', 0, none⟩) (j + 1) cap') (j + 1) (nums (l.take (j + 1))) ∧ Ext w w2) := (by refine ⟨?_, row_grown hg' (hown.alloc _) (hR.out.2.alloc _) (Nat.le_refl _)⟩; rw [HT.out]; exact hown'); clear hown' hg' hgb hgl hown)
      go_roundw
      case measure => simp [intOf]; omega
      case rel => exact ⟨j + 1, _, cap', by omega, by simp, rfl, R1⟩
    · have hjx : ¬ (j : Int) < (l.length : Int) := by omega
      have hjs : j = l.length := by omega
      have HF : Hid (wr.ownsRow w.heap.size Ei 1 (.slice r l.length c) l.length (nums l) ∧ Ext w wr) := by
        obtain ⟨q1, q2⟩ := hR.out
        rw [List.take_of_length_le (by omega), hjs] at q1
        exact ⟨q1, q2⟩
      subst hjs
      clear hR
      go_wp2_with fail
      go_ret
      exact ⟨_, _, rfl, HF.out.1, HF.out.2⟩
/-- a row of numbers, whatever it holds -/
def RowI (w : World) (B : Nat) (v : Value) (n : Nat) : Prop := ∃ xs : List Int, xs.length = n ∧ w.ownsRow B Ei 1 v n (nums xs)
theorem nums_set (xs : List Int) (k : Nat) (t : Int) : nums (xs.set k t) = (nums xs).set k (.int .i64 t) := by simp [nums, List.map_set]
set_option maxRecDepth 20000 in
set_option maxHeartbeats 4000000 in
theorem spoil_nums {B n : Nat} (v : Value) (w : World) (h : RowI w B v n) (hn : n ≤ 1000) :
    Calls Try.prog 22 #[v] w fun e w' => (∃ u, e = .returned u) ∧ Turn (fun k _ => v.ownBlock = some k) w w' := by
  obtain ⟨i0, hi, hz0, hz1, hz2⟩ := info_parts Try.infoInt
  obtain ⟨a, cap, rfl⟩ : ∃ a cap, v = .slice a n cap := by
    obtain ⟨xs, _, h⟩ := h
    obtain ⟨a, cap, e, _⟩ := row_shape h
    exact ⟨a, cap, e⟩
  have H0 : Hid (RowI w 0 (.slice a n cap) n) := by obtain ⟨xs, h1, h⟩ := h; exact ⟨xs, h1, row_mono h (Nat.zero_le _)⟩
  have HL : Hid (n ≤ 1000) := hn
  clear h hn
  go_enter Try.func22, Try.ntmps22
  go_wp2_with fail
  go_loopw [2] (fun s2 wr => ∃ j : Nat, j ≤ n ∧ s2 = .int .i64 j ∧ Hid (RowI wr 0 (.slice a n cap) n ∧ Turn (fun k _ => (Value.slice a n cap).ownBlock = some k) w wr)) (fun s2 _ => n - (intOf s2).toNat)
  case atStart => exact ⟨0, Nat.zero_le _, rfl, H0.out, Turn.refl _ _⟩
  case round =>
    obtain ⟨j, hj, rfl, hR⟩ := hrel
    obtain ⟨⟨xs, hxl, hrow⟩, ht⟩ := hR.out
    by_cases hlt : j < n
    · have hjx : (j : Int) < (n : Int) := by omega
      obtain ⟨g, cap', e, _, _⟩ := hrow.form (by omega)
      simp only [Value.slice.injEq, true_and] at e
      obtain ⟨rfl, rfl⟩ := e
      subst hxl
      have c0 : wr.cell? ⟨g, j, none⟩ = some (.int .i64 (gi xs j)) := by rw [hrow.cellAt _ (by omega)]; exact nums_at hlt
      have z0 := hrow.frozenAt j
      have R1 : Hid (RowI (wr.setCell ⟨g, j, none⟩ (.int .i64 (-99))) 0 (.slice (some ⟨g, 0, none⟩) xs.length cap) xs.length ∧ Turn (fun k _ => (Value.slice (some ⟨g, 0, none⟩) xs.length cap).ownBlock = some k) w (wr.setCell ⟨g, j, none⟩ (.int .i64 (-99)))) := by
        refine ⟨⟨xs.set j (-99), by simp, ?_⟩, ht.set (q := g) (o := j) rfl _⟩
        rw [nums_set]
        exact (hrow.stored _ _).1
      have hj2 : (j : Int) ≤ 1000 := by have := HL.out; omega
      clear hR hrow ht
      generalize gi xs j = t1 at *
      go_wp2_with fail
      go_roundw
      case measure => simp [intOf]; omega
      case rel => exact ⟨j + 1, by omega, by simp, R1⟩
    · have hjx : ¬ (j : Int) < (n : Int) := by omega
      have hL := HL.out
      have h63 : n + 1 ≤ maxLen := by unfold maxLen; omega
      have hby : (n + 1) * 8 ≤ 140737488355328 := by omega
      clear hL
      go_wp2_with (at_builtin; refine wpList_append_lies _ rfl (.tmp 12) (.tmp 13) 40 rfl 0 Ei i0 (.int .i64 0) 1 8 Try.underlying40 hi hz0 hz1 hz2 rfl (by decide) _ n (nums xs) rfl (by exact hrow.alloc _) ⟨wr.heap.size, 0, none⟩ 1 1 [.int .i64 5] rfl rfl (by exact one_new wr _ _) (by simp [Value.oneCell']) (by decide) h63 hby (Nat.zero_le _) (wr.heap.size + 1) (by simp) ?_; intro g' cap' w2 hown' hg' hgb hgl; have R1 : Hid (Turn (fun k _ => (Value.slice a n cap).ownBlock = some k) w w2) := (ht.alloc _).grown hg' (fun k hk => .inl (fun _ => hk)); clear hown' hg' hgb hgl)
      go_end0
      exact ⟨⟨_, rfl⟩, R1.out⟩
/-- what the k-th run tells -/
def tell (lt : Nat) (L : Nat → List Int) (G : Nat → Int) (k : Nat) : List Int × Int := if k < lt then (L k, G k) else ([], 0)
set_option maxHeartbeats 1000000 in
theorem turn_any (N : Int) (at_ al : Option Addr) (lt ct ll cl : Nat) (U : Nat → Value) (L : Nat → List Int) (G : Nat → Int) (k : Nat) (w0 w : World) (x : Ext w0 w) (h : Trns w0 at_ lt U L G) :
    Calls Try.prog 17 #[.agg #[.int .i64 N, .slice at_ lt ct, .slice al ll cl], .int .i64 (k : Int)] w fun e w' => ∃ a cap, e = .returned (.agg #[.slice a (tell lt L G k).1.length cap, .int .i64 (tell lt L G k).2]) ∧ RdI w0 (.slice a (tell lt L G k).1.length cap) (tell lt L G k).1 ∧ Ext w w' := by
  by_cases hk : k < lt
  · obtain ⟨b, off, rfl, h1, h2, h3, _⟩ := h k hk
    have e : tell lt L G k = (L k, G k) := if_pos hk
    rw [e]
    simp only
    have h3' := h3
    obtain ⟨a, cap, hU, _⟩ := h3
    rw [hU] at h1 h3'
    have c0 := x.keepc h1
    have c1 := x.keepc h2
    have x1 : Ext w ((w.alloc (.cells #[.int .i64 N, .slice (some ⟨b, off, none⟩) lt ct, .slice al ll cl] 25)).alloc (.cells #[.slice a (L k).length cap, .int .i64 (G k)] 45)) := ((Ext.refl w).alloc _).alloc _
    have HX : Hid (Ext w ((w.alloc (.cells #[.int .i64 N, .slice (some ⟨b, off, none⟩) lt ct, .slice al ll cl] 25)).alloc (.cells #[.slice a (L k).length cap, .int .i64 (G k)] 45))) := x1
    have x2 : Ext w ((w.alloc (.cells #[.int .i64 N, .slice (some ⟨b, off, none⟩) lt ct, .slice al ll cl] 25)).alloc (.cells #[.slice none 0 0, .int .i64 0] 45)) := ((Ext.refl w).alloc _).alloc _
    have c0a := x2.keepc c0
    have c1a := x2.keepc c1
    have hk' : (k : Int) < (lt : Int) := by omega
    clear h1 h2 hU x1 x2 e
    generalize (L k).length = n at *
    generalize G k = gk at *
    go_enter Try.func17, Try.ntmps17
    go_wp2_with fail
    exact bodyPost_ret (v := .agg #[.slice a n cap, .int .i64 gk]) (by simp [results, Try.results17, go_sem]) rfl ⟨a, cap, rfl, h3', HX.out⟩
  · have e : tell lt L G k = ([], 0) := if_neg hk
    rw [e]
    simp only [List.length_nil]
    have hk' : ¬ (k : Int) < (lt : Int) := by omega
    have HX : Hid (Ext w ((w.alloc (.cells #[.int .i64 N, .slice at_ lt ct, .slice al ll cl] 25)).alloc (.cells #[.slice none 0 0, .int .i64 0] 45))) := ((Ext.refl w).alloc _).alloc _
    go_enter Try.func17, Try.ntmps17
    go_wp2_with fail
    exact bodyPost_ret (v := .agg #[.slice none 0 0, .int .i64 0]) (by simp [results, Try.results17, go_sem]) rfl ⟨none, 0, rfl, ⟨none, 0, rfl, fun j hj => by simp at hj⟩, HX.out⟩
set_option maxRecDepth 20000 in
set_option maxHeartbeats 1000000 in
theorem long_any (N : Int) (at_ al : Option Addr) (lt ct ll cl : Nat) (U : Nat → Value) (L : Nat → List Int) (G : Nat → Int) (w : World) (h : Trns w at_ lt U L G) :
    Calls Try.prog 6 #[.agg #[.int .i64 N, .slice at_ lt ct, .slice al ll cl]] w fun e w' => (e = .returned (.bool true) ∨ (e = .returned (.bool false) ∧ Hid (lt ≤ 200 ∧ ∀ i, i < lt → (L i).length ≤ 40))) ∧ Ext w w' := by
  have HT : Hid (Trns w at_ lt U L G) := h
  have HX : Hid (Ext w (w.alloc (.cells #[.int .i64 N, .slice at_ lt ct, .slice al ll cl] 25))) := (Ext.refl w).alloc _
  have c1 : (w.alloc (.cells #[.int .i64 N, .slice at_ lt ct, .slice al ll cl] 25)).cell? ⟨w.heap.size, 1, none⟩ = some (.slice at_ lt ct) := by simp [go_sem]
  clear h
  go_enter Try.func6, Try.ntmps6
  go_upto_block 0 with fail
  generalize w.alloc (.cells #[.int .i64 N, .slice at_ lt ct, .slice al ll cl] 25) = W at *
  go_wp2_with fail
  go_loopw [3] (fun s3 wr => ∃ k : Nat, k ≤ lt ∧ k ≤ 200 ∧ s3 = .int .i64 k ∧ wr = W ∧ Hid (∀ i, i < k → (L i).length ≤ 40)) (fun s3 _ => lt - (intOf s3).toNat)
  case atStart => exact ⟨0, Nat.zero_le _, by omega, rfl, rfl, fun i hi => by omega⟩
  case round =>
    obtain ⟨k, hk, hk2, rfl, hwr, hR⟩ := hrel
    have hwr' := hwr.symm
    clear hwr
    subst hwr'
    by_cases hlt : k < lt
    · have hlt' : (k : Int) < (lt : Int) := by omega
      by_cases h200 : k < 200
      · obtain ⟨b, off, rfl, h1, h2, h3, _⟩ := HT.out k hlt
        obtain ⟨a, cap, hU, _⟩ := h3
        rw [hU] at h1
        have c0 := HX.out.keepc h1
        have c2 := HX.out.keepc h2
        by_cases h40 : (L k).length ≤ 40
        · have HN : Hid (∀ i, i < k + 1 → (L i).length ≤ 40) := fun i hi => by
            by_cases e : i = k
            · subst e; exact h40
            · exact hR.out i (by omega)
          have h40' : ¬ ((L k).length : Int) > 40 := by omega
          clear hR h1 h2 hU h40
          generalize (L k).length = n at *
          generalize G k = gk at *
          go_wp2_with fail
          go_roundw
          case measure => simp [intOf]; omega
          case rel => exact ⟨k + 1, by omega, by omega, by simp, by first | rfl | trivial, HN⟩
        · have h40' : ((L k).length : Int) > 40 := by omega
          clear hR h1 h2 hU h40
          generalize (L k).length = n at *
          generalize G k = gk at *
          go_wp2_with fail
          go_ret
          exact ⟨.inl rfl, HX.out⟩
      · have h200' : ¬ (k : Int) < 200 := by omega
        have hgt : (lt : Int) > 200 := by omega
        clear hR
        go_wp2_with fail
        go_ret
        exact ⟨.inl (by simp), HX.out⟩
    · have hlt' : ¬ (k : Int) < (lt : Int) := by omega
      have HN : Hid (lt ≤ 200 ∧ ∀ i, i < lt → (L i).length ≤ 40) := ⟨by omega, fun i hi => hR.out i (by omega)⟩
      have hgt : ¬ (lt : Int) > 200 := by omega
      clear hR
      go_wp2_with fail
      go_ret
      first
      | exact ⟨.inr (by simp), HX.out⟩
      | exact ⟨.inr ⟨by simp, HN⟩, HX.out⟩
end Go.Proofs.Ytehphgpkhfokhaa
