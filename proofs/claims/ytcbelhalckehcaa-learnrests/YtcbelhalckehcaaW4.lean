/- wide: Word. -/
import Derived.Test.YtcbelhalckehcaaW3
import Derived.Deep.RegionHeld
namespace Go.Proofs.Ytcbelhalckehcaa
open Go.RowKit Go.Shelf

end Go.Proofs.Ytcbelhalckehcaa
