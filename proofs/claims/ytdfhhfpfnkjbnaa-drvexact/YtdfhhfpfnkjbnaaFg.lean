/- gimbalref9: Take, whatever the state; what the calls of a round of DrvExact tell. -/
import Derived.Test.YtdfhhfpfnkjbnaaFc1
import Derived.Test.YtdfhhfpfnkjbnaaFc2
import Derived.Test.YtdfhhfpfnkjbnaaFc3
import Derived.Test.YtdfhhfpfnkjbnaaFc4
import Derived.Test.YtdfhhfpfnkjbnaaFe
namespace Go.Proofs.Ytdfhhfpfnkjbnaa
open Go.RowKit Go.Conc
theorem rtake_any {w : World} {d : Dr} {ast : Int} {data : List Int} {da : Option Addr} {c : Nat} (hok : okD d = true) (hin : inn d.st 1 7 = true) (hcap : data.length ≤ c) (hrd : RdY w 0 da data) (hby : ∀ j, 0 ≤ data.getD j 0 ∧ data.getD j 0 ≤ 255) : TakeR w d ast data da c := by
  cases hg : goodD d ast data
  · exact rtake_miss hok hin hrd hby hg
  · obtain ⟨addr, id, want, per, st, fails, tried, left, bad⟩ := d
    have h := inn_iff.1 hin
    simp only at h
    have hL : okL ⟨addr, id, want, per, st, fails, tried, left, bad⟩ = true := (okD_iff.1 hok).2.2.2.2.2.1
    have hc : st = 1 ∨ st = 2 ∨ st = 3 ∨ st = 4 ∨ st = 5 ∨ st = 6 ∨ st = 7 := by omega
    clear h
    by_cases h5 : st = 5
    · subst h5
      have hl : inn left 1 16 = true := hL
      have hl2 := inn_iff.1 hl
      obtain ⟨m, rfl⟩ := Int.eq_ofNat_of_zero_le (show 0 ≤ left by omega)
      exact rtake5 addr id want per fails tried m bad hok hcap hrd hby hg
    · have hl : left = 0 := by
        unfold okL at hL
        rw [if_neg h5] at hL
        simpa using hL
      subst hl
      rcases hc with rfl | rfl | rfl | rfl | rfl | rfl | rfl
      · exact rtake1 addr id want per fails tried bad hrd hby hg
      · exact rtake2 addr id want per fails tried bad hrd hby hg
      · exact rtake3 addr id want per fails tried bad hrd hby hg
      · by_cases hz : data.getD 0 0 = 0
        · exact rtake4z addr id want per fails tried bad hrd hby hg hz
        · exact rtake4n addr id want per fails tried bad hrd hby hg hz
      · exact absurd rfl h5
      · exact rtake6 addr id want per fails tried bad hrd hby hg
      · cases want
        · exact rtake7f addr id per fails tried bad hrd hby hg
        · exact rtake7t addr id per fails tried bad hrd hby hg
end Go.Proofs.Ytdfhhfpfnkjbnaa
