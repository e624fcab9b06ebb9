/- drv: a driver stays one. -/
import Derived.Test.YtdfhhfpfnkjbnaaDs
import Derived.Test.YtdfhhfpfnkjbnaaAk
namespace Go.Proofs.Ytdfhhfpfnkjbnaa
open Go.RowKit Go.Conc
theorem enterD_ok {d : Dr} (h : okD d = true) {s : Int} (hs : 0 ≤ s ∧ s ≤ 8) (h5 : s ≠ 5) : okD (enterD d s) = true := by
  obtain ⟨h1, h2, h3, h4, h5', h6, h7⟩ := okD_iff.1 h
  refine okD_iff.2 ⟨h1, h2, h3, hs, ⟨Int.le_refl _, by show (0 : Int) ≤ 2; decide⟩, ?_, h7⟩
  show (if s = 5 then inn 0 1 16 else decide ((0 : Int) = 0)) = true
  rw [if_neg h5]
  rfl
theorem tried_ok {d : Dr} (h : okD d = true) (b : Bool) : okD { d with tried := b } = true := h
theorem bad_ok {d : Dr} (h : okD d = true) {q : Int} (hq : 0 ≤ q ∧ q ≤ 1099511627776) : okD { d with bad := q } = true := by
  obtain ⟨h1, h2, h3, h4, h5, h6, h7⟩ := okD_iff.1 h
  exact okD_iff.2 ⟨h1, h2, h3, h4, h5, h6, hq⟩
theorem missD_ok {d : Dr} (h : okD d = true) : okD (missD d) = true := by
  obtain ⟨h1, h2, h3, h4, h5, h6, h7⟩ := okD_iff.1 h
  unfold missD
  split
  · exact enterD_ok h (by decide) (by decide)
  · split
    · exact okD_iff.2 ⟨h1, h2, h3, h4, ⟨by show (0 : Int) ≤ d.fails + 1; omega, by show d.fails + 1 ≤ 2; omega⟩, h6, h7⟩
    · split
      · exact enterD_ok h (by decide) (by decide)
      · exact enterD_ok h (by decide) (by decide)
theorem gotD_ok {d : Dr} {ast : Int} {data : List Int} (h : okD d = true) (hg : goodD d ast data = true) (hby : ∀ j, 0 ≤ data.getD j 0 ∧ data.getD j 0 ≤ 255) : okD (gotD d data) = true := by
  obtain ⟨h1, h2, h3, h4, h5, h6, h7⟩ := okD_iff.1 h
  unfold gotD
  split
  · exact enterD_ok h (by decide) (by decide)
  split
  · exact enterD_ok h (by decide) (by decide)
  split
  · exact enterD_ok (tried_ok h false) (by decide) (by decide)
  split
  · rename_i n1 n2 n3 e4
    split
    · exact enterD_ok h (by decide) (by decide)
    · rename_i hz
      refine okD_iff.2 ⟨h1, h2, h3, by show (0 : Int) ≤ 5 ∧ (5 : Int) ≤ 8; decide, ⟨Int.le_refl _, by show (0 : Int) ≤ 2; decide⟩, ?_, h7⟩
      show (if (5 : Int) = 5 then inn (data.getD 0 0) 1 16 else _) = true
      rw [if_pos rfl]
      unfold goodD fitD at hg
      rw [if_neg n1, if_pos e4] at hg
      simp only [Bool.and_eq_true, decide_eq_true_eq] at hg
      exact inn_iff.2 ⟨by have := (hby 0).1; omega, hg.2.2⟩
  split
  · exact enterD_ok (bad_ok h (smps_bad _ _ h7 _)) (by decide) (by decide)
  split
  · exact enterD_ok (tried_ok h false) (by decide) (by decide)
  · refine enterD_ok (tried_ok h true) ?_ ?_ <;> split <;> decide
theorem takeD_ok {d : Dr} {ast : Int} {data : List Int} (h : okD d = true) (hby : ∀ j, 0 ≤ data.getD j 0 ∧ data.getD j 0 ≤ 255) : okD (takeD d ast data) = true := by
  unfold takeD
  split
  · rename_i hg
    exact gotD_ok h hg hby
  · exact missD_ok h
theorem missD_keep (d : Dr) : (missD d).addr = d.addr ∧ (missD d).id = d.id ∧ (missD d).tried = d.tried := by
  unfold missD
  split
  · exact ⟨rfl, rfl, rfl⟩
  · split
    · exact ⟨rfl, rfl, rfl⟩
    · split <;> exact ⟨rfl, rfl, rfl⟩
theorem gotD_keep (d : Dr) (data : List Int) : (gotD d data).addr = d.addr ∧ (gotD d data).id = d.id ∧ (gotD d data).fails = 0 ∧ (gotD d data).st ≠ 8 := by
  unfold gotD
  split
  · exact ⟨rfl, rfl, rfl, by simp [enterD]⟩
  split
  · exact ⟨rfl, rfl, rfl, by simp [enterD]⟩
  split
  · exact ⟨rfl, rfl, rfl, by simp [enterD]⟩
  split
  · split
    · exact ⟨rfl, rfl, rfl, by simp [enterD]⟩
    · exact ⟨rfl, rfl, rfl, by simp [enterD]⟩
  split
  · exact ⟨rfl, rfl, rfl, by simp [enterD]⟩
  split
  · exact ⟨rfl, rfl, rfl, by simp [enterD]⟩
  · refine ⟨rfl, rfl, rfl, ?_⟩
    show (if d.want = true then (1 : Int) else 6) ≠ 8
    split <;> decide
theorem takeD_id (d : Dr) (ast : Int) (data : List Int) : (takeD d ast data).id = d.id := by
  unfold takeD
  split
  · exact (gotD_keep d data).2.1
  · exact (missD_keep d).2.1
end Go.Proofs.Ytdfhhfpfnkjbnaa
