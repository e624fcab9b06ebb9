/- The reference of layer 3: dot, Dot, Apply. -/
import Derived.Test.YtfmalpnlencmbaaMg41
import Derived.Test.YtfmalpnlencmbaaV9m
import Derived.Deep.RegionHeld
namespace Go.Proofs.Ytfmalpnlencmbaa
open Go.RowKit Go.Shelf

theorem dot_fit {a0 a1 a2 b0 b1 b2 : Int} (h1 : ok3 a0 a1 a2 = true) (h2 : ok3 b0 b1 b2 = true) : Fit 200 (dot3 a0 a1 a2 b0 b1 b2) := by
  obtain ⟨g0, g1, g2⟩ := ok3_parts h1
  obtain ⟨k0, k1, k2⟩ := ok3_parts h2
  have q0 := prod_abs g0 k0
  have q1 := prod_abs g1 k1
  have q2 := prod_abs g2 k2
  have e : (2 : Nat) ^ 200 = 1606938044258990275541962092341162602522202993782792835301376 := by decide
  unfold Fit dot3; omega
end Go.Proofs.Ytfmalpnlencmbaa
