/- wheel: unset, Set, Cancel, Next, New. -/
import Derived.Test.YtehphgpkhfokhaaJj
namespace Go.Proofs.Ytehphgpkhfokhaa
open Go.RowKit
/-- the wheel at p holds the timers of S, in order; T were set -/
def Wh (w : World) (p : Nat) (v : Value) (S : List Tm) (T : Int) : Prop := ∃ xs, HS w p v xs T ∧ Hw xs S T
/-- only the wheel has turned; its things lie where they lay, or in a new place -/
def Goes (p : Nat) (v v' : Value) (w w' : World) : Prop := Turn (own p v) w w' ∧ ∀ k, v'.ownBlock = some k → v.ownBlock = some k ∨ w.heap.size ≤ k
theorem Goes.trans {p : Nat} {v v' v'' : Value} {a b c : World} (h : Goes p v v' a b) (k : Goes p v' v'' b c) : Goes p v v'' a c := by
  refine ⟨h.1.trans k.1 (fun i hi j o => ?_), fun i hi => ?_⟩
  · rcases o with o | o
    · exact .inl o
    · rcases h.2 i o with q | q
      · exact .inr q
      · omega
  · rcases k.2 i hi with q | q
    · exact h.2 i q
    · have := h.1.size; exact .inr (by omega)
theorem Goes.of_ext {p : Nat} {v : Value} {a b : World} (h : Ext a b) : Goes p v v a b := ⟨Turn.of_ext h, fun _ hk => .inl hk⟩
theorem Wh.ext {w w' : World} {p : Nat} {v : Value} {S : List Tm} {T : Int} (h : Wh w p v S T) (hx : Ext w w') : Wh w' p v S T := by
  obtain ⟨xs, h1, h2⟩ := h
  exact ⟨xs, h1.ext hx, h2⟩
theorem HS.shape {w : World} {p : Nat} {v : Value} {xs : List Tm} {T : Int} (h : HS w p v xs T) : ∃ a cap, v = .slice a xs.length cap ∧ (0 < xs.length → ∃ g, a = some ⟨g, 0, none⟩) := by
  rcases h.2.2.1.2 with ⟨e, h0⟩ | ⟨g, cap, cur, hv, _⟩
  · exact ⟨none, 0, by rw [e, h0], fun k => by omega⟩
  · exact ⟨_, cap, hv, fun _ => ⟨g, rfl⟩⟩
theorem isTimer_any (id : Int) (w : World) :
    Calls Try.prog 51 #[.int .i64 id] w fun e w' => e = .returned (.bool (decide (0 ≤ id ∧ id < 64))) ∧ w' = w := by
  by_cases h1 : 0 ≤ id
  · by_cases h2 : id < 64
    · rw [decide_eq_true ⟨h1, h2⟩]
      go_enter Try.func51, Try.ntmps51
      go_wp2_with fail
      go_ret
      exact ⟨by simp, rfl⟩
    · rw [decide_eq_false (by omega)]
      go_enter Try.func51, Try.ntmps51
      go_wp2_with fail
      go_ret
      exact ⟨by simp, rfl⟩
  · rw [decide_eq_false (by omega)]
    go_enter Try.func51, Try.ntmps51
    go_wp2_with fail
    go_ret
    exact ⟨by simp, rfl⟩
theorem unset1_any (t : Tm) (id : Int) (c : Nat) (w : World) (h : w.cell? ⟨c, 0, none⟩ = some (.int .i64 id)) :
    Calls Try.prog 57 #[tv t, .pointer (some ⟨c, 0, none⟩)] w fun e w' => e = .returned (.bool (decide (t.1 = id))) ∧ Ext w w' := by
  obtain ⟨t1, t2, t3⟩ := t
  unfold tv
  have hx : Ext w (w.alloc (.cells #[.int .i64 t1, .int .i64 t2, .int .i64 t3] Et)) := (Ext.refl w).alloc _
  have hc := hx.keepc h
  have HX : Hid (Ext w (w.alloc (.cells #[.int .i64 t1, .int .i64 t2, .int .i64 t3] Et))) := hx
  have hd : (t1 == id) = decide (t1 = id) := by by_cases e : t1 = id <;> simp [e]
  clear h hx
  go_enter Try.func57, Try.ntmps57
  go_wp2_with fail
  go_ret
  exact ⟨by simp, HX.out⟩
set_option maxHeartbeats 4000000 in
theorem index_any {p : Nat} {v : Value} {xs : List Tm} {T : Int} (id : Int) (c : Nat) (w : World) (h : HS w p v xs T) (hm : xs.length ≤ 1000000) (hc : w.cell? ⟨c, 0, none⟩ = some (.int .i64 id)) :
    Calls Try.prog 56 #[v, .func (.func 57) #[] #[.pointer (some ⟨c, 0, none⟩)]] w fun e w' => (∃ r : Int, e = .returned (.int .i64 r) ∧ ((r = -1 ∧ ∀ k, k < xs.length → (gt xs k).1 ≠ id) ∨ ∃ k : Nat, r = k ∧ k < xs.length ∧ (gt xs k).1 = id)) ∧ Ext w w' := by
  obtain ⟨a, cap, rfl, ha⟩ := h.shape
  have HC : Hid (∀ t w', Ext w w' → Calls Try.prog 57 #[tv t, .pointer (some ⟨c, 0, none⟩)] w' fun e w'' => e = .returned (.bool (decide (t.1 = id))) ∧ Ext w' w'') := fun t w' x => unset1_any t id c w' (x.keepc hc)
  have HH : Hid (HS w p (.slice a xs.length cap) xs T) := h
  clear h hc
  go_enter Try.func56, Try.ntmps56
  go_wp2_with fail
  go_loopw [8] (fun s wr => ∃ k : Nat, k ≤ xs.length ∧ s = .int .i64 k ∧ Hid (∀ j, j < k → (gt xs j).1 ≠ id) ∧ Ext w wr) (fun s _ => xs.length - (intOf s).toNat)
  case atStart => exact ⟨0, Nat.zero_le _, rfl, fun j hj => by omega, Ext.refl _⟩
  case round =>
    obtain ⟨k, hk, rfl, hN, hx⟩ := hrel
    by_cases hlt : k < xs.length
    · obtain ⟨g, rfl⟩ := ha (by omega)
      have hlt' : (k : Int) < (xs.length : Int) := by omega
      obtain ⟨c0, c1, c2⟩ := (HH.out.ext hx).cells hlt
      have HCk := HC.out (gt xs k) wr hx
      unfold tv at HCk
      by_cases he : (gt xs k).1 = id
      · rw [decide_eq_true he] at HCk
        have HE : Hid (∃ j : Nat, (k : Int) = j ∧ j < xs.length ∧ (gt xs j).1 = id) := ⟨k, rfl, hlt, he⟩
        clear hN HC HH he
        generalize (gt xs k).1 = t1 at *
        generalize (gt xs k).2.1 = t2 at *
        generalize (gt xs k).2.2 = t3 at *
        go_wp2_with (go_at_call 57; refine HCk.mono ?_; rintro e w1 ⟨rfl, x1⟩)
        go_ret
        exact ⟨⟨_, rfl, .inr HE.out⟩, hx.trans x1⟩
      · rw [decide_eq_false he] at HCk
        have HN : Hid (∀ j, j < k + 1 → (gt xs j).1 ≠ id) := fun j hj => by
          by_cases e : j = k
          · subst e; exact he
          · exact hN.out j (by omega)
        clear hN HC HH he
        generalize (gt xs k).1 = t1 at *
        generalize (gt xs k).2.1 = t2 at *
        generalize (gt xs k).2.2 = t3 at *
        go_wp2_with (go_at_call 57; refine HCk.mono ?_; rintro e w1 ⟨rfl, x1⟩)
        go_roundw
        case measure => simp [intOf]; omega
        case rel => exact ⟨k + 1, by omega, by simp, HN, hx.trans x1⟩
    · have hkn : ¬ (k : Int) < (xs.length : Int) := by omega
      go_wp2_with fail
      go_ret
      exact ⟨⟨-1, rfl, .inl ⟨rfl, fun j hj => hN.out j (by omega)⟩⟩, hx⟩
theorem Hw.small {xs S : List Tm} {T : Int} (h : Hw xs S T) (hT : T ≤ 100000) : xs.length ≤ 100000 := by
  have := h.len; have := h.2.2.2.2.1.2; omega
theorem mem_gt {xs S : List Tm} {T : Int} (h : Hw xs S T) {t : Tm} (ht : t ∈ S) : ∃ k, k < xs.length ∧ gt xs k = t := by
  obtain ⟨k, hk, e⟩ := List.getElem_of_mem (h.2.1.mem_iff.2 ht)
  exact ⟨k, hk, gt_some (by rw [List.getElem?_eq_getElem hk, e])⟩
set_option maxHeartbeats 4000000 in
theorem unset_any {p : Nat} {v : Value} {S : List Tm} {T : Int} (id : Int) (w : World) (h : Wh w p v S T) (hT : T ≤ 100000) :
    Calls Try.prog 52 #[.pointer (some ⟨p, 1, none⟩), .int .i64 id] w fun e w' => e = .returned (.bool (decide (∃ t ∈ S, t.1 = id))) ∧ ∃ v', Wh w' p v' (S.filter (fun t => t.1 ≠ id)) T ∧ Goes p v v' w w' := by
  obtain ⟨xs, h, hw⟩ := h
  have hn := hw.small hT
  have hx : Ext w (w.alloc (.cells #[.int .i64 id] 3)) := (Ext.refl w).alloc _
  have hc : (w.alloc (.cells #[.int .i64 id] 3)).cell? ⟨w.heap.size, 0, none⟩ = some (.int .i64 id) := by simp [go_sem]
  have h0 := h.ext hx
  have HI := index_any id w.heap.size _ h0 (by omega) hc
  have hp := h0.1.1
  have HX : Hid (Ext w (w.alloc (.cells #[.int .i64 id] 3))) := hx
  have H0 : Hid (HS (w.alloc (.cells #[.int .i64 id] 3)) p v xs T) := h0
  clear hc h0 hx
  go_enter Try.func52, Try.ntmps52
  go_upto_region 2 with (go_at_call 56; refine HI.mono ?_; rintro e w1 ⟨⟨r, rfl, hr⟩, x1⟩)
  rcases hr with ⟨rfl, hnone⟩ | ⟨k, rfl, hk, hid⟩
  · have HN : Hid (∀ t ∈ S, t.1 ≠ id) := fun t ht => by
      obtain ⟨k, hk, e⟩ := mem_gt hw ht
      rw [← e]; exact hnone k hk
    go_wp2_with fail
    go_ret
    refine ⟨?_, v, ⟨xs, H0.out.ext x1, ?_⟩, Goes.of_ext (HX.out.trans x1)⟩
    · rw [decide_eq_false]
      · rfl
      · rintro ⟨t, ht, e⟩; exact HN.out t ht e
    · rw [filter_none HN.out]; exact hw
  · have h1 := H0.out.ext x1
    obtain ⟨g, cap, rfl, _, _⟩ := h1.form (by omega)
    have HD := drop_any k w1 h1 hk (by omega) hw.1
    have hp1 := h1.1.1
    have hk0 : ¬ (k : Int) < 0 := by omega
    have HM : Hid (∃ t ∈ S, t.1 = id) := ⟨gt xs k, hw.of_mem hk, hid⟩
    have H1 : Hid (Ext w w1) := HX.out.trans x1
    clear h h1 HI H0 hp
    go_wp2_with (go_at_call 50; refine HD.mono ?_; rintro e w2 ⟨rfl, ys, y1, y2, y3, y4⟩)
    go_ret
    refine ⟨?_, _, ⟨ys, y3, ?_⟩, (Goes.of_ext H1.out).trans (v' := .slice (some ⟨g, 0, none⟩) xs.length cap) ⟨y4, fun i hi => .inl hi⟩⟩
    · rw [decide_eq_true HM.out]; rfl
    · have := hw.drop hk y2 y1
      rw [hid] at this
      exact this
theorem new_any (w : World) :
    Calls Try.prog 33 #[] w fun e w' => e = .returned (.pointer (some ⟨w.heap.size, 0, none⟩)) ∧ w' = w.alloc (.cells #[.slice none 0 0, .int .i64 0] 67) := by
  go_enter Try.func33, Try.ntmps33
  go_wp2_with fail
  go_ret
  exact ⟨rfl, rfl⟩
set_option maxHeartbeats 4000000 in
theorem next_any {p : Nat} {v : Value} {S : List Tm} {xs : List Tm} {T T' : Int} (w : World) (h : HS w p v xs T') (hw : Hw xs S T) :
    Calls Try.prog 49 #[.pointer (some ⟨p, 1, none⟩)] w fun e w' => e = .returned (.tuple #[.int .i64 (match S with | [] => 0 | s :: _ => s.2.1), .bool (decide (S ≠ []))]) ∧ w' = w := by
  have hl := hw.len
  have hp := h.1.1
  cases S with
  | nil =>
    obtain ⟨a, cap, rfl, _⟩ := h.shape
    simp only [List.length_nil] at hl
    rw [hl] at hp
    go_enter Try.func49, Try.ntmps49
    go_wp2_with fail
    exact bodyPost_ret (v := .tuple #[.int .i64 0, .bool false]) (by simp [results, Try.results49, go_sem]) rfl ⟨by simp, rfl⟩
  | cons s S =>
    obtain ⟨hpos, h0⟩ := hw.head
    obtain ⟨g, cap, rfl, _, _⟩ := h.form hpos
    obtain ⟨c0, c1, c2⟩ := h.cells hpos
    rw [h0] at c1
    have hz : ¬ (xs.length : Int) = 0 := by omega
    have hz2 : (0 : Int) < (xs.length : Int) := by omega
    go_enter Try.func49, Try.ntmps49
    go_wp2_with fail
    exact bodyPost_ret (v := .tuple #[.int .i64 s.2.1, .bool true]) (by simp [results, Try.results49, go_sem]) rfl ⟨by simp, rfl⟩
end Go.Proofs.Ytehphgpkhfokhaa
