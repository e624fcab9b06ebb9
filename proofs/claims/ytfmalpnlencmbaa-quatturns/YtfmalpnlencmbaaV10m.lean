/- vec: unit$1. -/
import Derived.Test.YtfmalpnlencmbaaMg20
namespace Go.Proofs.Ytfmalpnlencmbaa
open Go.RowKit Go.Shelf

end Go.Proofs.Ytfmalpnlencmbaa
