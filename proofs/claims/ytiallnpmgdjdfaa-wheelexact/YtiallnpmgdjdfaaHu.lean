/- wheel: All. -/
import Derived.Test.YtiallnpmgdjdfaaHt
namespace Go.Proofs.Ytiallnpmgdjdfaa
open Go.RowKit
theorem row_mono {w : World} {B B' : Nat} {e : TypeId} {s n : Nat} {v : Value} {xs : List Value} (h : w.ownsRow B e s v n xs) (hb : B' ≤ B) : w.ownsRow B' e s v n xs := by
  refine ⟨h.1, ?_⟩
  rcases h.2 with e1 | ⟨g, cap, cur, hv, hb2, hr⟩
  · exact .inl e1
  · exact .inr ⟨g, cap, cur, hv, by omega, hr⟩
theorem flat_one (xs : List Tm) : ∀ u ∈ flat xs, u.oneCell' = true := by
  induction xs with
  | nil => intro u hu; simp [flat] at hu
  | cons t l ih =>
    intro u hu
    simp only [flat, List.mem_cons] at hu
    rcases hu with rfl | rfl | rfl | hu
    · rfl
    · rfl
    · rfl
    · exact ih u hu
theorem row_grown {w w' : World} {v : Value} {B : Nat} {e : TypeId} {s n : Nat} {xs : List Value} (hg : w.grownBy w' v.ownBlock) (h : w.ownsRow B e s v n xs) {a : World} (hx : Ext a w) (hB : a.heap.size ≤ B) : Ext a w' :=
  Below.trans hx ⟨hg.os, hg.tape, hg.output, hg.size, fun k hk => hg.block k (Nat.lt_of_lt_of_le hk hx.size) (fun e => by have := (h.lt k e.symm).1; omega)⟩
theorem eql_some (g n cap : Nat) (w : World) : (binOp .eql 51 (.slice (some ⟨g, 0, none⟩) n cap) (.slice none 0 0)).run Try.prog w = .ok (.bool false) w := rfl
theorem eql_none (w : World) : (binOp .eql 51 (.slice none 0 0) (.slice none 0 0)).run Try.prog w = .ok (.bool true) w := rfl
set_option maxRecDepth 20000 in
set_option maxHeartbeats 8000000 in
theorem clone_any {p : Nat} {v : Value} {xs : List Tm} {T : Int} (w : World) (h : HS w p v xs T) (hm : xs.length ≤ 100000) :
    Calls Try.prog 24 #[v] w fun e w' => ∃ r, e = .returned r ∧ w'.ownsRow w.heap.size Et 3 r xs.length (flat xs) ∧ Ext w w' := by
  obtain ⟨i0, hi, hz0, hz1, hz2⟩ := info_parts Try.infoTm
  by_cases h0 : 0 < xs.length
  · obtain ⟨g, cap, rfl, _, _⟩ := h.form h0
    have HX : Hid (Ext w (w.alloc (.cells #[] Et))) := (Ext.refl w).alloc _
    have hown : (w.alloc (.cells #[] Et)).ownsRow w.heap.size Et 3 (.slice (some ⟨w.heap.size, 0, none⟩) 0 0) 0 [] := World.ownsRow_lit w #[] 0 (Nat.le_refl _) (by decide) rfl
    have hnews : ∀ j u, (flat xs)[j]? = some u → (w.alloc (.cells #[] Et)).cell? ((⟨g, 0, none⟩ : Addr).add j) = some u := (h.ext HX.out).2.2.1.cells rfl
    have hone := flat_one xs
    have hfl := flat_len xs
    have heq := eql_some g xs.length cap
    clear h
    go_enter Try.func24, Try.ntmps24
    go_wp2_with (at_builtin; refine wpList_append_lies _ rfl (.tmp 5) (.tmp 6) 51 rfl w.heap.size Et i0 (.agg #[.int .i64 0, .int .i64 0, .int .i64 0]) 3 24 Try.underlying51 hi hz0 hz1 hz2 rfl (by decide) _ 0 [] rfl (by exact hown) ⟨g, 0, none⟩ xs.length cap (flat xs) rfl hfl (by exact hnews) hone h0 (by unfold maxLen; omega) (by omega) (by simp) (w.heap.size + 1) (by simp) ?_; intro g' cap' w2 hown' hg' hgb hgl)
    have HF : Hid (w2.ownsRow w.heap.size Et 3 (.slice (some ⟨g', 0, none⟩) xs.length cap') xs.length (flat xs) ∧ Ext w w2) := ⟨by rw [Nat.zero_add] at hown'; exact hown', row_grown hg' hown HX.out (Nat.le_refl _)⟩
    go_wp2_with fail
    go_ret
    exact ⟨_, rfl, HF.out.1, HF.out.2⟩
  · have hx0 : xs = [] := List.length_eq_zero_iff.1 (by omega)
    subst hx0
    rcases h.2.2.1.2 with ⟨rfl, _⟩ | ⟨g, cap, cur, rfl, _⟩
    · have heq := eql_none
      go_enter Try.func24, Try.ntmps24
      go_wp2_with fail
      go_ret
      exact ⟨_, rfl, World.ownsRow_nil _ _ _ _, Ext.refl _⟩
    · have HX : Hid (Ext w (w.alloc (.cells #[] Et))) := (Ext.refl w).alloc _
      have hown : Hid ((w.alloc (.cells #[] Et)).ownsRow w.heap.size Et 3 (.slice (some ⟨w.heap.size, 0, none⟩) 0 0) 0 []) := World.ownsRow_lit w #[] 0 (Nat.le_refl _) (by decide) rfl
      clear h
      have heq := eql_some g 0 cap
      simp only [List.length_nil]
      go_enter Try.func24, Try.ntmps24
      go_wp2_with fail
      go_ret
      exact ⟨_, rfl, hown.out, HX.out⟩
theorem due_all {S : List Tm} {now : Int} (h : ∀ t ∈ S, t.2.1 ≤ now) : due now S = S := by
  have := (due_is (rest := []) h (fun s l e => by cases e)).1
  rwa [List.append_nil] at this
set_option maxRecDepth 20000 in
set_option maxHeartbeats 8000000 in
theorem all_any {p : Nat} {v : Value} {S : List Tm} {T : Int} (w : World) (h : Wh w p v S T) (hT : T ≤ 100000) :
    Calls Try.prog 12 #[.pointer (some ⟨p, 0, none⟩)] w fun e w' => ∃ r, e = .returned r ∧ w'.ownsRow w.heap.size Ea 2 r S.length (flat2 S) ∧ Ext w w' := by
  obtain ⟨xs, h, hw⟩ := h
  have hn := hw.small hT
  have HC := clone_any w h (by omega)
  have hp := h.1.1
  have hd : due 1099511627776 S = S := due_all fun t ht => (hw.2.2.2.2.2 t ht).2.1.2
  go_enter Try.func12, Try.ntmps12
  go_upto_region 2 with (go_at_call 24; refine HC.mono ?_; rintro e w1 ⟨r, rfl, h1, x1⟩; obtain ⟨ra, rc, rfl⟩ : ∃ ra rc, r = Value.slice ra xs.length rc := by (rcases h1.2 with ⟨e1, e2⟩ | ⟨g, cap, cur, e1, _⟩; exact ⟨none, 0, by rw [e1, e2]⟩; exact ⟨_, _, e1⟩))
  have x2 : Ext w1 (w1.alloc (.cells #[.slice ra xs.length rc, .int .i64 0] 55)) := (Ext.refl w1).alloc _
  have h2 : HS (w1.alloc (.cells #[.slice ra xs.length rc, .int .i64 0] 55)) w1.heap.size (.slice ra xs.length rc) xs 0 := by
    refine ⟨⟨by simp [go_sem], by simp [go_sem]⟩, ⟨by simp [go_sem], by simp [go_sem]⟩, row_mono (row_ext h1 x2) (Nat.zero_le _), fun k => ?_⟩
    have := (h1.lt _ k).2
    omega
  have HT := take_raw (T := T) 1099511627776 _ h2 hw hT
  rw [hd] at HT
  have HS2 : Hid (w.heap.size ≤ (w1.alloc (.cells #[.slice ra xs.length rc, .int .i64 0] 55)).heap.size) := (x1.trans x2).size
  have HO : Hid (∀ k, own w1.heap.size (.slice ra xs.length rc) k → w.heap.size ≤ k) := fun k o => by
    rcases o with o | o
    · rw [o]; exact x1.size
    · exact (h1.lt k o).1
  have HX2 : Hid (Ext w (w1.alloc (.cells #[.slice ra xs.length rc, .int .i64 0] 55))) := x1.trans x2
  clear h hw h1 x1 x2 h2 hp HC
  generalize w1.alloc (.cells #[.slice ra xs.length rc, .int .i64 0] 55) = W at *
  go_wp2_with (go_at_call 15; refine HT.mono ?_; rintro e w3 ⟨r, rfl, q1, _, q3⟩)
  go_ret
  exact ⟨r, rfl, row_mono q1 HS2.out, q3.below HX2.out HO.out⟩
end Go.Proofs.Ytiallnpmgdjdfaa
