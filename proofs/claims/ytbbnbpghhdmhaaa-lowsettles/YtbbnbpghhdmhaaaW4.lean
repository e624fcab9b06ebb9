/- wide: Word. -/
import Derived.Test.YtbbnbpghhdmhaaaW3
import Derived.Deep.RegionHeld
namespace Go.Proofs.Ytbbnbpghhdmhaaa
open Go.RowKit Go.Shelf

end Go.Proofs.Ytbbnbpghhdmhaaa
