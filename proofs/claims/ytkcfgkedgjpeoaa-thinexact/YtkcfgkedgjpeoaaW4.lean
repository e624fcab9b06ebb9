/- wide: Word. -/
import Derived.Test.YtkcfgkedgjpeoaaW3
import Derived.Deep.RegionHeld
namespace Go.Proofs.Ytkcfgkedgjpeoaa
open Go.RowKit Go.Shelf

end Go.Proofs.Ytkcfgkedgjpeoaa
