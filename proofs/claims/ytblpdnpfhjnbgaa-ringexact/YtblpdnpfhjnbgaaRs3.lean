/- Push, Pop, Len, At, Cap of a ring of string: the list that it holds. -/
import Derived.Test.YtblpdnpfhjnbgaaRs2
namespace Go.Proofs.Ytblpdnpfhjnbgaa
open Go.RowKit Go.Conc
section
variable {p d c cap : Nat} {l : List Value}
abbrev Rs (w : World) (p d c cap : Nat) (l : List Value) : Prop := IsRing w 73 9 p d c cap l
theorem pop_s (w : World) (h : Rs w p d c cap l) :
    Calls Try.prog 20 #[.pointer (some ⟨p, 0, none⟩)] w fun e w' =>
      e = .returned (.tuple #[l.headD (.string ⟨#[]⟩), .bool (!l.isEmpty)]) ∧ Rs w' p d c cap l.tail ∧ Turn p d c w w' := by
  obtain ⟨first, A, buf, s, r, h, hh, hpd, hpc, hdc⟩ := h
  cases l with
  | nil =>
    refine (pop_none_s w h hh.2.1 (by have := hh.2.2.2.2.1; simpa using this)).mono ?_
    rintro e w' ⟨rfl, n, rfl⟩
    exact ⟨rfl, ⟨first, A, buf, s, r, h.drewN n, hh, hpd, hpc, hdc⟩, drewN_turn n⟩
  | cons v l =>
    obtain ⟨hv, hh'⟩ := hh.pop (.string ⟨#[]⟩)
    refine (pop_some_s w h hpd hpc hdc hh.2.2.1 hh.2.1 (len := l.length) hh.2.2.2.2.1 hv).mono ?_
    rintro e w' ⟨rfl, hr, ht⟩
    exact ⟨rfl, ⟨_, _, _, _, _, hr, hh', hpd, hpc, hdc⟩, ht⟩
theorem lay_s (w : World) (h : Rs w p d c cap l) (x : ByteArray) :
    Calls Try.prog 36 #[.pointer (some ⟨p, 0, none⟩), .string x] w fun e w' =>
      e = .returned (.bool (decide (l.length < cap))) ∧ Rs w' p d c cap (if l.length < cap then l ++ [.string x] else l) ∧ Turn p d c w w' := by
  obtain ⟨first, A, buf, s, r, h, hh, hpd, hpc, hdc⟩ := h
  by_cases hl : l.length < cap
  · obtain ⟨hq, hlt, hh'⟩ := hh.push hl (.string x)
    have hv : ∃ v, A[(first + l.length) % cap]? = some v := ⟨_, Array.getElem?_eq_getElem (by have := hh.2.2.2.1; omega)⟩
    obtain ⟨v, hv⟩ := hv
    refine (lay_free_s w h hpd hpc hdc x hq hlt hv).mono ?_
    rintro e w' ⟨rfl, hr, ht⟩
    rw [if_pos hl, decide_eq_true hl]
    exact ⟨rfl, ⟨_, _, _, _, _, hr, hh', hpd, hpc, hdc⟩, ht⟩
  · have hb : buf = #[] := by
      have := hh.2.2.2.2.1
      exact Array.eq_empty_of_size_eq_zero (by omega)
    subst hb
    refine (lay_full_s w h x).mono ?_
    rintro e w' ⟨rfl, rfl⟩
    rw [if_neg hl, decide_eq_false hl]
    exact ⟨rfl, ⟨_, _, _, _, _, h, hh, hpd, hpc, hdc⟩, Turn.refl _ _ _ _⟩
theorem len_l_s (w : World) (h : Rs w p d c cap l) :
    Calls Try.prog 24 #[.pointer (some ⟨p, 0, none⟩)] w fun e w' => e = .returned (.int .i64 l.length) ∧ ∃ n, w' = w.drewN n := by
  obtain ⟨first, A, buf, s, r, h, hh, hpd, hpc, hdc⟩ := h
  exact len_s w h hh.2.2.2.2.1 hh.2.1
theorem cap_l_s (w : World) (h : Rs w p d c cap l) :
    Calls Try.prog 41 #[.pointer (some ⟨p, 0, none⟩)] w fun e w' => e = .returned (.int .i64 cap) ∧ w' = w := by
  obtain ⟨first, A, buf, s, r, h, hh, hpd, hpc, hdc⟩ := h
  exact cap_s w h
theorem at_l_s (w : World) (h : Rs w p d c cap l) (i : Int) :
    Calls Try.prog 33 #[.pointer (some ⟨p, 0, none⟩), .int .i64 i] w fun e w' =>
      e = .returned (if 0 ≤ i ∧ i < l.length then .tuple #[l.getD i.toNat (.string ⟨#[]⟩), .bool true] else .tuple #[.string ⟨#[]⟩, .bool false]) ∧ ∃ n, w' = w.drewN n := by
  obtain ⟨first, A, buf, s, r, h, hh, hpd, hpc, hdc⟩ := h
  by_cases hi : 0 ≤ i ∧ i < l.length
  · rw [if_pos hi]
    obtain ⟨k, rfl⟩ : ∃ k : Nat, i = k := ⟨i.toNat, by omega⟩
    have hk : k < l.length := by omega
    have hv := hh.2.2.2.2.2.2 k hk
    rw [List.getElem?_eq_getElem hk] at hv
    have : l.getD ((k : Int)).toNat (.string ⟨#[]⟩) = l[k] := by simp [List.getElem?_eq_getElem hk]
    rw [this]
    exact at_in_s w h k hh.2.2.1 hh.2.1 hh.2.2.2.2.1 hk hv
  · rw [if_neg hi]
    exact at_out_s w h i hh.2.1 hh.2.2.2.2.1 (by omega)
set_option maxHeartbeats 400000 in
theorem push_s (w : World) (h : Rs w p d c cap l) (x : ByteArray) :
    Calls Try.prog 22 #[.pointer (some ⟨p, 0, none⟩), .string x] w fun e w' =>
      e = .returned (if l.length < cap then .tuple #[.string ⟨#[]⟩, .bool false] else .tuple #[l.headD (.string ⟨#[]⟩), .bool true]) ∧ Rs w' p d c cap (pushed cap l (.string x)) ∧ Turn p d c w w' := by
  have HL := lay_s w h x
  obtain ⟨hle, h1, h2⟩ := h.le
  by_cases hl : l.length < cap
  · rw [decide_eq_true hl, if_pos hl] at HL
    have e1 : pushed cap l (.string x) = l ++ [.string x] := by unfold pushed; rw [if_pos hl]
    rw [if_pos hl, e1]
    clear h hl hle h1 h2 e1
    go_enter Try.func22, Try.ntmps22
    go_wp2_with (go_at_call 36; refine HL.mono ?_; rintro e w' ⟨rfl, hr, ht⟩)
    go_ret2
    exact ⟨rfl, hr, ht⟩
  · rw [decide_eq_false hl, if_neg hl] at HL
    have e1 : pushed cap l (.string x) = l.tail ++ [.string x] := by unfold pushed; rw [if_neg hl]
    rw [if_neg hl, e1]
    have hne : l.isEmpty = false := by cases l with
      | nil => simp at hl; omega
      | cons => rfl
    have hlt : l.tail.length < cap := by simp; omega
    have HP : Hid (∀ w, Rs w p d c cap l → Calls Try.prog 20 #[.pointer (some ⟨p, 0, none⟩)] w fun e w' => e = .returned (.tuple #[l.headD (.string ⟨#[]⟩), .bool true]) ∧ Rs w' p d c cap l.tail ∧ Turn p d c w w') := fun w h => by
      have := pop_s w h; rw [hne] at this; exact this
    have HM : Hid (∀ w, Rs w p d c cap l.tail → Calls Try.prog 36 #[.pointer (some ⟨p, 0, none⟩), .string x] w fun e w' => e = .returned (.bool true) ∧ Rs w' p d c cap (l.tail ++ [.string x]) ∧ Turn p d c w w') := fun w h => by
      have := lay_s w h x; rw [decide_eq_true hlt, if_pos hlt] at this; exact this
    generalize l.headD (.string ⟨#[]⟩) = hd at *
    clear h hl hle h1 h2 e1 hne hlt
    go_enter Try.func22, Try.ntmps22
    go_wp2_with (first | (go_at_call 36; refine HL.mono ?_; rintro e w' ⟨rfl, hr, ht⟩) | (go_at_call 20; refine (HP.out _ hr).mono ?_; rintro e w2 ⟨rfl, hr2, ht2⟩) | (go_at_call 36; refine (HM.out _ hr2).mono ?_; rintro e w3 ⟨rfl, hr3, ht3⟩))
    go_ret2
    exact ⟨rfl, hr3, (ht.trans ht2).trans ht3⟩
end
end Go.Proofs.Ytblpdnpfhjnbgaa
