/- Push, Pop, Len, At, Cap of a ring of int: the list that it holds. -/
import Derived.Test.YtblpdnpfhjnbgaaRi2
namespace Go.Proofs.Ytblpdnpfhjnbgaa
open Go.RowKit Go.Conc
section
variable {p d c cap : Nat} {l : List Value}
abbrev Ri (w : World) (p d c cap : Nat) (l : List Value) : Prop := IsRing w 70 3 p d c cap l
theorem pop_i (w : World) (h : Ri w p d c cap l) :
    Calls Try.prog 19 #[.pointer (some ⟨p, 0, none⟩)] w fun e w' =>
      e = .returned (.tuple #[l.headD (.int .i64 0), .bool (!l.isEmpty)]) ∧ Ri w' p d c cap l.tail ∧ Turn p d c w w' := by
  obtain ⟨first, A, buf, s, r, h, hh, hpd, hpc, hdc⟩ := h
  cases l with
  | nil =>
    refine (pop_none_i w h hh.2.1 (by have := hh.2.2.2.2.1; simpa using this)).mono ?_
    rintro e w' ⟨rfl, n, rfl⟩
    exact ⟨rfl, ⟨first, A, buf, s, r, h.drewN n, hh, hpd, hpc, hdc⟩, drewN_turn n⟩
  | cons v l =>
    obtain ⟨hv, hh'⟩ := hh.pop (.int .i64 0)
    refine (pop_some_i w h hpd hpc hdc hh.2.2.1 hh.2.1 (len := l.length) hh.2.2.2.2.1 hv).mono ?_
    rintro e w' ⟨rfl, hr, ht⟩
    exact ⟨rfl, ⟨_, _, _, _, _, hr, hh', hpd, hpc, hdc⟩, ht⟩
theorem lay_i (w : World) (h : Ri w p d c cap l) (x : Int) :
    Calls Try.prog 35 #[.pointer (some ⟨p, 0, none⟩), .int .i64 x] w fun e w' =>
      e = .returned (.bool (decide (l.length < cap))) ∧ Ri w' p d c cap (if l.length < cap then l ++ [.int .i64 x] else l) ∧ Turn p d c w w' := by
  obtain ⟨first, A, buf, s, r, h, hh, hpd, hpc, hdc⟩ := h
  by_cases hl : l.length < cap
  · obtain ⟨hq, hlt, hh'⟩ := hh.push hl (.int .i64 x)
    have hv : ∃ v, A[(first + l.length) % cap]? = some v := ⟨_, Array.getElem?_eq_getElem (by have := hh.2.2.2.1; omega)⟩
    obtain ⟨v, hv⟩ := hv
    refine (lay_free_i w h hpd hpc hdc x hq hlt hv).mono ?_
    rintro e w' ⟨rfl, hr, ht⟩
    rw [if_pos hl, decide_eq_true hl]
    exact ⟨rfl, ⟨_, _, _, _, _, hr, hh', hpd, hpc, hdc⟩, ht⟩
  · have hb : buf = #[] := by
      have := hh.2.2.2.2.1
      exact Array.eq_empty_of_size_eq_zero (by omega)
    subst hb
    refine (lay_full_i w h x).mono ?_
    rintro e w' ⟨rfl, rfl⟩
    rw [if_neg hl, decide_eq_false hl]
    exact ⟨rfl, ⟨_, _, _, _, _, h, hh, hpd, hpc, hdc⟩, Turn.refl _ _ _ _⟩
theorem len_l_i (w : World) (h : Ri w p d c cap l) :
    Calls Try.prog 23 #[.pointer (some ⟨p, 0, none⟩)] w fun e w' => e = .returned (.int .i64 l.length) ∧ ∃ n, w' = w.drewN n := by
  obtain ⟨first, A, buf, s, r, h, hh, hpd, hpc, hdc⟩ := h
  exact len_i w h hh.2.2.2.2.1 hh.2.1
theorem cap_l_i (w : World) (h : Ri w p d c cap l) :
    Calls Try.prog 28 #[.pointer (some ⟨p, 0, none⟩)] w fun e w' => e = .returned (.int .i64 cap) ∧ w' = w := by
  obtain ⟨first, A, buf, s, r, h, hh, hpd, hpc, hdc⟩ := h
  exact cap_i w h
theorem at_l_i (w : World) (h : Ri w p d c cap l) (i : Int) :
    Calls Try.prog 26 #[.pointer (some ⟨p, 0, none⟩), .int .i64 i] w fun e w' =>
      e = .returned (if 0 ≤ i ∧ i < l.length then .tuple #[l.getD i.toNat (.int .i64 0), .bool true] else .tuple #[.int .i64 0, .bool false]) ∧ ∃ n, w' = w.drewN n := by
  obtain ⟨first, A, buf, s, r, h, hh, hpd, hpc, hdc⟩ := h
  by_cases hi : 0 ≤ i ∧ i < l.length
  · rw [if_pos hi]
    obtain ⟨k, rfl⟩ : ∃ k : Nat, i = k := ⟨i.toNat, by omega⟩
    have hk : k < l.length := by omega
    have hv := hh.2.2.2.2.2.2 k hk
    rw [List.getElem?_eq_getElem hk] at hv
    have : l.getD ((k : Int)).toNat (.int .i64 0) = l[k] := by simp [List.getElem?_eq_getElem hk]
    rw [this]
    exact at_in_i w h k hh.2.2.1 hh.2.1 hh.2.2.2.2.1 hk hv
  · rw [if_neg hi]
    exact at_out_i w h i hh.2.1 hh.2.2.2.2.1 (by omega)
set_option maxHeartbeats 400000 in
theorem push_i (w : World) (h : Ri w p d c cap l) (x : Int) :
    Calls Try.prog 21 #[.pointer (some ⟨p, 0, none⟩), .int .i64 x] w fun e w' =>
      e = .returned (if l.length < cap then .tuple #[.int .i64 0, .bool false] else .tuple #[l.headD (.int .i64 0), .bool true]) ∧ Ri w' p d c cap (pushed cap l (.int .i64 x)) ∧ Turn p d c w w' := by
  have HL := lay_i w h x
  obtain ⟨hle, h1, h2⟩ := h.le
  by_cases hl : l.length < cap
  · rw [decide_eq_true hl, if_pos hl] at HL
    have e1 : pushed cap l (.int .i64 x) = l ++ [.int .i64 x] := by unfold pushed; rw [if_pos hl]
    rw [if_pos hl, e1]
    clear h hl hle h1 h2 e1
    go_enter Try.func21, Try.ntmps21
    go_wp2_with (go_at_call 35; refine HL.mono ?_; rintro e w' ⟨rfl, hr, ht⟩)
    go_ret2
    exact ⟨rfl, hr, ht⟩
  · rw [decide_eq_false hl, if_neg hl] at HL
    have e1 : pushed cap l (.int .i64 x) = l.tail ++ [.int .i64 x] := by unfold pushed; rw [if_neg hl]
    rw [if_neg hl, e1]
    have hne : l.isEmpty = false := by cases l with
      | nil => simp at hl; omega
      | cons => rfl
    have hlt : l.tail.length < cap := by simp; omega
    have HP : Hid (∀ w, Ri w p d c cap l → Calls Try.prog 19 #[.pointer (some ⟨p, 0, none⟩)] w fun e w' => e = .returned (.tuple #[l.headD (.int .i64 0), .bool true]) ∧ Ri w' p d c cap l.tail ∧ Turn p d c w w') := fun w h => by
      have := pop_i w h; rw [hne] at this; exact this
    have HM : Hid (∀ w, Ri w p d c cap l.tail → Calls Try.prog 35 #[.pointer (some ⟨p, 0, none⟩), .int .i64 x] w fun e w' => e = .returned (.bool true) ∧ Ri w' p d c cap (l.tail ++ [.int .i64 x]) ∧ Turn p d c w w') := fun w h => by
      have := lay_i w h x; rw [decide_eq_true hlt, if_pos hlt] at this; exact this
    generalize l.headD (.int .i64 0) = hd at *
    clear h hl hle h1 h2 e1 hne hlt
    go_enter Try.func21, Try.ntmps21
    go_wp2_with (first | (go_at_call 35; refine HL.mono ?_; rintro e w' ⟨rfl, hr, ht⟩) | (go_at_call 19; refine (HP.out _ hr).mono ?_; rintro e w2 ⟨rfl, hr2, ht2⟩) | (go_at_call 35; refine (HM.out _ hr2).mono ?_; rintro e w3 ⟨rfl, hr3, ht3⟩))
    go_ret2
    exact ⟨rfl, hr3, (ht.trans ht2).trans ht3⟩
end
end Go.Proofs.Ytblpdnpfhjnbgaa
